"""What the tests share: calls as lists, answers call by call, and slots made without the program's own code."""

import struct

from sharedring.ring import answers

RING_SIZE = 16448
NUMBERS_END = 1 << 64
LOWEST = -2147483648
HIGHEST = 2147483647


def begin():
    return [0]


def put(kind, data):
    return [1, kind, len(data)] + list(data)


def take():
    return [2]


def wait(looks):
    return [3, looks]


def look(k):
    return [4, k]


def write(at, data):
    return [8, at, len(data)] + list(data)


def peek(at, n):
    return [9, at, n]


def write_head(number):
    return write(0, struct.pack("<Q", number))


def write_tail(number):
    return write(8, struct.pack("<Q", number))


def write_numbers(head, tail):
    return write(0, struct.pack("<QQ", head, tail))


def peek_numbers():
    return peek(0, 16)


def numbers_told(head, tail):
    return list(struct.pack("<QQ", head, tail))


def place(number):
    return 64 + 64 * (number % 256)


def run(*calls):
    """Hand in the calls as one list; answer a list for each of them."""
    told = answers([number for call in calls for number in call])
    split = []
    at = 0
    while at < len(told):
        count = told[at]
        split.append(told[at + 1:at + 1 + count])
        at += 1 + count
    assert at == len(told), "the last count tells of more numbers than there are"
    assert len(split) == len(calls), "each call is answered once"
    return split


def turned(number, width):
    return int(format(number, "0%db" % width)[::-1], 2)


def reference_sum(data):
    """CRC-32C the other way round: the highest bit first, by the polynomial that isn't turned."""
    c = 0xFFFFFFFF
    for byte in data:
        c ^= turned(byte, 8) << 24
        for _ in range(8):
            c <<= 1
            if c >> 32:
                c ^= 0x11EDC6F41
    return turned(c ^ 0xFFFFFFFF, 32)


def summed(first_60):
    return list(first_60) + list(struct.pack("<I", reference_sum(first_60)))


def slot(number, kind, data, n=None, behind=None):
    """A slot with its right sum; n and the bytes behind the message may be made wrong."""
    length = len(data) if n is None else n
    zeros = [0] * (48 - len(data)) if behind is None else behind
    first_60 = list(struct.pack("<QHH", number % NUMBERS_END, kind, length)) + list(data) + zeros
    assert len(first_60) == 60
    return summed(first_60)


def message_told(kind, data):
    """What rg_take and rg_look tell of a sound message."""
    return [len(data), kind % 256, kind // 256] + list(data) + [0] * (48 - len(data))


def full_ring(head):
    """One call that lays 256 sound messages from head on; message m has the kind m modulo 65536 and one byte."""
    ring = [0] * RING_SIZE
    ring[0:16] = numbers_told(head, (head + 256) % NUMBERS_END)
    for k in range(256):
        number = (head + k) % NUMBERS_END
        ring[place(number):place(number) + 64] = slot(number, number % 65536, [number % 256])
    return write(0, ring)


def full_message_told(number):
    number %= NUMBERS_END
    return message_told(number % 65536, [number % 256])


def flipped(data, at, bit):
    changed = list(data)
    changed[at] ^= 1 << bit
    return changed


def damaged_slots(number):
    """Slots of message number that aren't sound, each with what is wrong; where it can be, the sum is right."""
    data = [9, 8, 7]
    sound = slot(number, 513, data)
    # Message 0 has the number of a slot of zeros: its sum alone betrays it.
    yield "never written", [0] * 64
    yield "all ones", [255] * 64
    yield "the number before", slot(number - 1, 513, data)
    yield "the number behind", slot(number + 1, 513, data)
    yield "the number one round before", slot((number - 256) % NUMBERS_END, 513, data)
    yield "the number's highest byte", summed(flipped(sound[:60], 7, 7))
    yield "n of 49", slot(number, 513, [1] * 48, n=49)
    yield "n of 49 and zeros", slot(number, 513, [], n=49)
    yield "n of 256 and three", slot(number, 513, data, n=259)
    yield "n of 65535", slot(number, 513, [0] * 48, n=65535)
    yield "n too low", slot(number, 513, data, n=2)
    yield "n of 0 with bytes", slot(number, 513, data, n=0)
    yield "a byte right behind", slot(number, 513, data, behind=[1] + [0] * 44)
    yield "a byte far behind", slot(number, 513, data, behind=[0] * 44 + [128])
    yield "a byte behind 47", slot(number, 513, [5] * 47, behind=[1])
    yield "no sum", sound[:60] + [0] * 4
    yield "the sum with its highest byte first", sound[:60] + sound[:59:-1]
    yield "the sum of all bits turned back", sound[:60] + [255 - byte for byte in sound[60:]]
    for at in range(64):
        yield "one bit of byte %d" % at, flipped(sound, at, at % 8)
