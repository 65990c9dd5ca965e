"""Many mixed lists of calls against a second, plainer ring that shares nothing with the program."""

import random
import struct
import unittest

from tests.ringcalls import HIGHEST, LOWEST, NUMBERS_END, RING_SIZE, begin, damaged_slots, look, numbers_told, peek
from tests.ringcalls import place, put, run, slot, take, wait, write, write_head, write_numbers, write_tail


class Model:
    def __init__(self):
        self.ring = bytearray(RING_SIZE)

    def numbers(self):
        head, tail = struct.unpack("<QQ", self.ring[:16])
        return head, tail, (tail - head) % NUMBERS_END

    def told(self, number):
        found = list(self.ring[place(number):place(number) + 64])
        n = found[10] + 256 * found[11]
        if n > 48 or found != slot(number, found[8] + 256 * found[9], found[12:12 + n]):
            return [-3]
        return [n] + found[8:10] + found[12:60]

    def answer(self, call):
        if call[0] == 0:
            self.ring[:16] = bytes(16)
            return [0]
        if call[0] == 8:
            self.ring[call[1]:call[1] + call[2]] = bytes(call[3:])
            return []
        if call[0] == 9:
            return list(self.ring[call[1]:call[1] + call[2]])
        if call[0] == 3 and not 0 <= call[1] <= 1000 or call[0] == 4 and not 0 <= call[1] <= 255:
            return [-2]
        head, tail, waiting = self.numbers()
        if waiting > 256:
            return [-4]
        if call[0] == 3:
            return [waiting]
        if call[0] == 4:
            return self.told((head + call[1]) % NUMBERS_END) if waiting > call[1] else [-1]
        if call[0] == 1:
            if waiting == 256:
                return [-1]
            self.ring[place(tail):place(tail) + 64] = bytes(slot(tail, call[1], call[3:]))
            self.ring[8:16] = struct.pack("<Q", (tail + 1) % NUMBERS_END)
            return [0]
        if waiting == 0:
            return [-1]
        self.ring[0:8] = struct.pack("<Q", (head + 1) % NUMBERS_END)
        return self.told(head)


def some_damage(chance, model):
    """What others may write: near the messages that wait, or anywhere."""
    head, tail, waiting = model.numbers()
    number = (head + chance.randrange(min(waiting, 256) + 1)) % NUMBERS_END
    choice = chance.randrange(7)
    if choice == 0:
        return write(place(number), chance.choice(list(damaged_slots(number)))[1])
    if choice == 1:
        return write(place(number) + chance.randrange(64), [chance.randrange(256)])
    if choice == 2:
        return write(place(number), slot(number, chance.randrange(65536), [3] * chance.randrange(49)))
    if choice == 3:
        return write_head((tail - chance.choice((0, 1, 2, 255, 256, 257))) % NUMBERS_END)
    if choice == 4:
        return write_tail((head + chance.choice((0, 1, 2, 255, 256, 257))) % NUMBERS_END)
    if choice == 5:
        first = chance.choice((0, 250, 1 << 32, NUMBERS_END - 1, NUMBERS_END - 4, chance.randrange(NUMBERS_END)))
        return write_numbers(first, (first + chance.choice((0, 1, 256, 257))) % NUMBERS_END)
    at = chance.randrange(RING_SIZE)
    return write(at, [chance.randrange(256) for _ in range(min(chance.randrange(100), RING_SIZE - at))])


def some_call(chance, model):
    choice = chance.randrange(20)
    if choice < 7:
        return put(chance.randrange(65536), [chance.randrange(256) for _ in range(chance.randrange(49))])
    if choice < 11:
        return take()
    if choice < 14:
        return look(chance.choice((0, 1, 2, 5, 254, 255, 256, -1, LOWEST, HIGHEST)))
    if choice < 16:
        return wait(chance.choice((0, 1, 10, 1000, 1001, -1, LOWEST, HIGHEST)))
    if choice == 16 and chance.randrange(4) == 0:
        return begin()
    if choice == 17:
        at = chance.randrange(RING_SIZE + 1)
        return peek(at, min(chance.randrange(200), RING_SIZE - at))
    return some_damage(chance, model)


class AgainstTheModel(unittest.TestCase):
    def test_many_lists(self):
        for seed in range(150):
            chance = random.Random(seed)
            model = Model()
            calls = []
            expected = []
            for _ in range(chance.randrange(1, 99)):
                calls.append(some_call(chance, model))
                expected.append(model.answer(calls[-1]))
            half = RING_SIZE // 2
            ring = list(model.ring)
            with self.subTest(seed=seed):
                self.assertEqual(run(*calls, peek(0, half)), expected + [ring[:half]])
                self.assertEqual(run(*calls, peek(half, half)), expected + [ring[half:]])

    def test_the_model_reads_numbers_as_the_tests_write_them(self):
        model = Model()
        model.answer(write_numbers(5, 7))
        self.assertEqual(model.numbers(), (5, 7, 2))
        self.assertEqual(list(model.ring[:16]), numbers_told(5, 7))


if __name__ == "__main__":
    unittest.main()
