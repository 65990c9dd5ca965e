"""What the tests share: calls as lists, answers call by call, and slots made without the program's own code."""

import functools
import itertools
import struct
import unittest

from sharedring.ring import answers

RING_SIZE = 16448
MOST_CALLS = 100
MOST_NUMBERS = 30000
NUMBERS_END = 1 << 64
LOWEST = -2147483648
HIGHEST = 2147483647


def difference(told, expected):
    """Where two values first differ, and how."""
    if not isinstance(told, list) or not isinstance(expected, list):
        return " is %r, not %r" % (told, expected)
    for k, (one, other) in enumerate(zip(told, expected)):
        if one != other:
            return "[%d]" % k + difference(one, other)
    return " has %d values, not %d" % (len(told), len(expected))


class RingTest(unittest.TestCase):
    """Tells where lists differ by itself: unittest's own way takes minutes for two whole rings."""

    def setUp(self):
        self.addTypeEqualityFunc(list, self.hold_lists)

    def hold_lists(self, told, expected, msg=None):
        if told != expected:
            self.fail(self._formatMessage(msg, "what is told" + difference(told, expected)))


def begin():
    return [0]


def put(kind, data):
    return [1, kind, len(data)] + list(data)


def take():
    return [2]


def wait(looks):
    return [3, looks]


def look(k):
    return [4, k]


def sound():
    return [5]


def mend():
    return [6]


def sum_of(data):
    return [7, len(data)] + list(data)


def write(at, data):
    return [8, at, len(data)] + list(data)


def peek(at, n):
    return [9, at, n]


def write_head(number):
    return write(0, struct.pack("<Q", number))


def write_tail(number):
    return write(8, struct.pack("<Q", number))


def write_numbers(head, tail):
    return write(0, struct.pack("<QQ", head, tail))


def peek_numbers():
    return peek(0, 16)


def peek_ring():
    return peek(0, RING_SIZE)


def numbers_told(head, tail):
    return list(struct.pack("<QQ", head, tail))


def place(number):
    return 64 + 64 * (number % 256)


def run(*calls):
    """Hand in the calls as one list; answer a list for each of them."""
    handed_in = [number for call in calls for number in call]
    assert 1 <= len(calls) <= MOST_CALLS, "a list has 1 to 100 calls"
    assert len(handed_in) <= MOST_NUMBERS, "a list has at most 30000 numbers"
    told = answers(handed_in)
    split = []
    at = 0
    while at < len(told):
        count = told[at]
        split.append(told[at + 1:at + 1 + count])
        at += 1 + count
    assert at == len(told), "the last count tells of more numbers than there are"
    assert len(split) == len(calls), "each call is answered once"
    return split


def turned(number, width):
    return int(format(number, "0%db" % width)[::-1], 2)


def reference_sum(data):
    return sum_highest_first(bytes(data))


@functools.lru_cache(maxsize=None)
def sum_highest_first(data):
    """CRC-32C the other way round: the highest bit first, by the polynomial that isn't turned."""
    c = 0xFFFFFFFF
    for byte in data:
        c ^= turned(byte, 8) << 24
        for _ in range(8):
            c <<= 1
            if c >> 32:
                c ^= 0x11EDC6F41
    return turned(c ^ 0xFFFFFFFF, 32)


def summed(first_60):
    return list(first_60) + list(struct.pack("<I", reference_sum(first_60)))


def slot(number, kind, data, n=None, behind=None):
    """A slot with its right sum; n and the bytes behind the message may be made wrong."""
    length = len(data) if n is None else n
    zeros = [0] * (48 - len(data)) if behind is None else behind
    first_60 = list(struct.pack("<QHH", number % NUMBERS_END, kind, length)) + list(data) + zeros
    assert len(first_60) == 60
    return summed(first_60)


def message_told(kind, data):
    """What rg_take and rg_look tell of a sound message."""
    return [len(data), kind % 256, kind // 256] + list(data) + [0] * (48 - len(data))


def full_ring(head):
    """One call that lays 256 sound messages from head on; message m has the kind m modulo 65536 and one byte."""
    ring = [0] * RING_SIZE
    ring[0:16] = numbers_told(head, (head + 256) % NUMBERS_END)
    for k in range(256):
        number = (head + k) % NUMBERS_END
        ring[place(number):place(number) + 64] = slot(number, number % 65536, [number % 256])
    return write(0, ring)


def full_message_told(number):
    number %= NUMBERS_END
    return message_told(number % 65536, [number % 256])


def flipped(data, at, bit):
    changed = list(data)
    changed[at] ^= 1 << bit
    return changed


def damaged_slots(number):
    """Slots of message number that aren't sound, each with what is wrong; where it can be, the sum is right."""
    data = [9, 8, 7]
    sound = slot(number, 513, data)
    # Message 0 has the number of a slot of zeros: its sum alone betrays it.
    yield "never written", [0] * 64
    yield "all ones", [255] * 64
    yield "the number before", slot(number - 1, 513, data)
    yield "the number behind", slot(number + 1, 513, data)
    yield "the number one round before", slot((number - 256) % NUMBERS_END, 513, data)
    yield "the number's highest byte", summed(flipped(sound[:60], 7, 7))
    yield "n of 49", slot(number, 513, [1] * 48, n=49)
    yield "n of 49 and zeros", slot(number, 513, [], n=49)
    yield "n of 256 and three", slot(number, 513, data, n=259)
    yield "n of 65535", slot(number, 513, [0] * 48, n=65535)
    yield "n too low", slot(number, 513, data, n=2)
    yield "n of 0 with bytes", slot(number, 513, data, n=0)
    yield "a byte right behind", slot(number, 513, data, behind=[1] + [0] * 44)
    yield "a byte far behind", slot(number, 513, data, behind=[0] * 44 + [128])
    yield "a byte behind 47", slot(number, 513, [5] * 47, behind=[1])
    yield "no sum", sound[:60] + [0] * 4
    yield "the sum with its highest byte first", sound[:60] + sound[:59:-1]
    yield "the sum of all bits turned back", sound[:60] + [255 - byte for byte in sound[60:]]
    for at in range(64):
        yield "one bit of byte %d" % at, flipped(sound, at, at % 8)


DAMAGED_WAYS = len(list(damaged_slots(0)))


def noisy_ring(head, slots):
    """The bytes of a ring in which these slots wait from head on; all else in it is noise."""
    ring = [(k * 7 + k // 251 + 1) % 256 for k in range(RING_SIZE)]
    ring[0:16] = numbers_told(head, (head + len(slots)) % NUMBERS_END)
    return laid(ring, head, slots)


def laid(ring, head, slots):
    """A copy of the ring with these slots from message head on."""
    changed = list(ring)
    for k, one in enumerate(slots):
        changed[place(head + k):place(head + k) + 64] = one
    return changed


def message(k):
    """The kind and the bytes of the k-th message of a pattern, each of them another one."""
    return 65535 - 200 * k, [(3 * k + j) % 256 for j in range(k % 49)]


def pattern_slots(head, pattern):
    """A slot for each sign of the pattern: a sound message where it is s, else one that is damaged in some way."""
    slots = []
    for k, sign in enumerate(pattern):
        number = (head + k) % NUMBERS_END
        slots.append(slot(number, *message(k)) if sign == "s" else damaged_slot(number, k))
    return slots


def damaged_slot(number, way):
    """One of the damaged slots of message number; the next way is another one."""
    return next(itertools.islice(damaged_slots(number), way % DAMAGED_WAYS, None))[1]


# Heads whose slots or numbers go round within the messages that wait, and some where they don't.
HEADS = (0, 1, 100, 250, 255, 256, 70000, (1 << 32) - 2, NUMBERS_END - 256, NUMBERS_END - 3, NUMBERS_END - 1)
PATTERNS = (
    "", "s", "d", "ss", "sd", "ds", "dd", "sss", "dss", "sds", "ssd", "dds", "sdd", "dsd", "sdsdsdsd", "dsdsdsds",
    "ssssdddd", "ddddssss", "sdddddds", "dsssssssd", "ssdsssddsssssdssd")
LONG_PATTERNS = (
    "s" * 256, "d" * 256, "sd" * 128, "ds" * 128, "d" + "s" * 255, "s" * 255 + "d", "s" * 100 + "d" + "s" * 155,
    "s" + "d" * 255, "d" * 255 + "s", "ssd" * 85 + "s", "s" * 128 + "d" * 128, "s" * 255, "ds" * 127 + "d")
WRONG_NUMBERS = (
    (0, 257), (1, 0), (0, NUMBERS_END - 1), (5, 1 << 63), (NUMBERS_END - 1, 256), (256, 255), (1 << 40, 3),
    (NUMBERS_END - 200, 57), (0x0102030405060708, 0x0802030405060701))
