"""Many mixed lists of calls against a second, plainer ring that shares nothing with the program."""

import random
import struct
import unittest

from tests.ringcalls import DAMAGED_WAYS, HEADS, HIGHEST, LOWEST, MOST_CALLS, MOST_NUMBERS, NUMBERS_END, RING_SIZE
from tests.ringcalls import RingTest, begin, damaged_slot, look, mend, noisy_ring, numbers_told, pattern_slots, peek
from tests.ringcalls import peek_ring, place, put, reference_sum, run, slot, sound, sum_of, take, wait, write
from tests.ringcalls import write_head, write_numbers, write_tail


class Model:
    def __init__(self):
        self.ring = bytearray(RING_SIZE)

    def numbers(self):
        head, tail = struct.unpack("<QQ", self.ring[:16])
        return head, tail, (tail - head) % NUMBERS_END

    def told(self, number):
        found = list(self.ring[place(number):place(number) + 64])
        n = found[10] + 256 * found[11]
        if n > 48 or found != slot(number, found[8] + 256 * found[9], found[12:12 + n]):
            return [-3]
        return [n] + found[8:10] + found[12:60]

    def waiting_told(self):
        head, tail, waiting = self.numbers()
        return [self.told((head + k) % NUMBERS_END) for k in range(waiting)]

    def sound(self):
        marks = [told != [-3] for told in self.waiting_told()]
        bits = sum(mark << k for k, mark in enumerate(marks))
        return [sum(marks)] + list(bits.to_bytes(32, "little"))

    def mend(self):
        head, tail, waiting = self.numbers()
        if waiting > 256:
            self.ring[0:8] = self.ring[8:16]
            return [-4]
        kept = [told for told in self.waiting_told() if told != [-3]]
        number = tail
        for n, low, high, *data in reversed(kept):
            number = (number - 1) % NUMBERS_END
            self.ring[place(number):place(number) + 64] = bytes(slot(number, low + 256 * high, data[:n]))
        self.ring[0:8] = struct.pack("<Q", number)
        return [waiting - len(kept)]

    def answer(self, call):
        if call[0] == 0:
            self.ring[:16] = bytes(16)
            return [0]
        if call[0] == 8:
            self.ring[call[1]:call[1] + call[2]] = bytes(call[3:])
            return []
        if call[0] == 9:
            return list(self.ring[call[1]:call[1] + call[2]])
        if call[0] == 3 and not 0 <= call[1] <= 1000 or call[0] == 4 and not 0 <= call[1] <= 255:
            return [-2]
        if call[0] == 6:
            return self.mend()
        if call[0] == 7:
            return [0] + list(struct.pack("<I", reference_sum(call[2:])))
        head, tail, waiting = self.numbers()
        if waiting > 256:
            return [-4]
        if call[0] == 5:
            return self.sound()
        if call[0] == 3:
            return [waiting]
        if call[0] == 4:
            return self.told((head + call[1]) % NUMBERS_END) if waiting > call[1] else [-1]
        if call[0] == 1:
            if waiting == 256:
                return [-1]
            self.ring[place(tail):place(tail) + 64] = bytes(slot(tail, call[1], call[3:]))
            self.ring[8:16] = struct.pack("<Q", (tail + 1) % NUMBERS_END)
            return [0]
        if waiting == 0:
            return [-1]
        self.ring[0:8] = struct.pack("<Q", (head + 1) % NUMBERS_END)
        return self.told(head)


def some_damage(chance, model):
    """What others may write: near the messages that wait, or anywhere."""
    head, tail, waiting = model.numbers()
    number = (head + chance.randrange(min(waiting, 256) + 1)) % NUMBERS_END
    choice = chance.randrange(7)
    if choice == 0:
        return write(place(number), damaged_slot(number, chance.randrange(DAMAGED_WAYS)))
    if choice == 1:
        return write(place(number) + chance.randrange(64), [chance.randrange(256)])
    if choice == 2:
        return write(place(number), slot(number, chance.randrange(65536), [3] * chance.randrange(49)))
    if choice == 3:
        return write_head((tail - chance.choice((0, 1, 2, 255, 256, 257))) % NUMBERS_END)
    if choice == 4:
        return write_tail((head + chance.choice((0, 1, 2, 255, 256, 257))) % NUMBERS_END)
    if choice == 5:
        first = chance.choice((0, 250, 1 << 32, NUMBERS_END - 1, NUMBERS_END - 4, chance.randrange(NUMBERS_END)))
        return write_numbers(first, (first + chance.choice((0, 1, 256, 257))) % NUMBERS_END)
    at = chance.randrange(RING_SIZE)
    return write(at, [chance.randrange(256) for _ in range(min(chance.randrange(100), RING_SIZE - at))])


def some_bytes(chance, most):
    return [chance.randrange(256) for _ in range(chance.randrange(most + 1))]


def some_call(chance, model):
    choice = chance.randrange(26)
    if choice < 7:
        return put(chance.randrange(65536), some_bytes(chance, 48))
    if choice < 11:
        return take()
    if choice < 14:
        return look(chance.choice((0, 1, 2, 5, 254, 255, 256, -1, LOWEST, HIGHEST)))
    if choice < 16:
        return wait(chance.choice((0, 1, 10, 1000, 1001, -1, LOWEST, HIGHEST)))
    if choice < 18:
        return sound()
    if choice < 20:
        return mend()
    if choice == 20:
        return sum_of(some_bytes(chance, chance.choice((0, 1, 9, 60, 5000))))
    if choice == 21:
        at = chance.randrange(RING_SIZE + 1)
        return peek(at, min(chance.randrange(200), RING_SIZE - at))
    if choice == 22 and chance.randrange(4) == 0:
        return begin()
    return some_damage(chance, model)


def some_ring(chance):
    """The whole ring as others leave it: some messages wait, and of some lists all 256."""
    head = chance.choice(HEADS + (chance.randrange(NUMBERS_END),))
    signs = chance.choice(("s", "d", "sd", "sssd", "dddddds"))
    waiting = chance.choice((0, 1, 2, 20, 255, 256))
    return write(0, noisy_ring(head, pattern_slots(head, [chance.choice(signs) for _ in range(waiting)])))


def some_list(chance, model, count):
    """So many calls, within the length that a list may have, and what the model answers to each."""
    calls = []
    expected = []
    room = MOST_NUMBERS
    while len(calls) < count:
        call = some_ring(chance) if not calls and chance.randrange(2) == 0 else some_call(chance, model)
        # Three numbers for each call that is still to come let every list end with calls of some kind.
        if len(call) + 3 * (count - len(calls)) <= room:
            room -= len(call)
            calls.append(call)
            expected.append(model.answer(call))
    return calls, expected


class AgainstTheModel(RingTest):
    def hold(self, seed, count):
        chance = random.Random(seed)
        model = Model()
        calls, expected = some_list(chance, model, count - 1)
        with self.subTest(seed=seed, count=count):
            self.assertEqual(run(*calls, peek_ring()), expected + [list(model.ring)])
        return calls

    def test_lists_of_100_calls(self):
        kinds = set()
        for seed in range(100):
            calls = self.hold(seed, MOST_CALLS)
            kinds.update(call[0] for call in calls)
        self.assertEqual(kinds, set(range(10)))

    def test_shorter_lists(self):
        for seed in range(1000, 1100):
            self.hold(seed, 1 + seed % 60)

    def test_the_model_reads_numbers_as_the_tests_write_them(self):
        model = Model()
        model.answer(write_numbers(5, 7))
        self.assertEqual(model.numbers(), (5, 7, 2))
        self.assertEqual(list(model.ring[:16]), numbers_told(5, 7))


if __name__ == "__main__":
    unittest.main()
