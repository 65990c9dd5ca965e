"""Promise 5: rg_wait."""

import unittest

from tests.ringcalls import HIGHEST, LOWEST, NUMBERS_END, RingTest, full_ring, numbers_told, peek, peek_numbers, put
from tests.ringcalls import run, take, wait, write, write_numbers


class Wait(RingTest):
    def test_how_many_wait(self):
        told = run(wait(0), put(1, []), wait(0), put(1, []), wait(1000), take(), wait(5), take(), wait(1000))
        self.assertEqual(told[0::2], [[0], [1], [2], [1], [0]])

    def test_none_waits(self):
        for looks in (0, 1, 2, 999, 1000):
            self.assertEqual(run(wait(looks), write_numbers(77, 77), wait(looks)), [[0], [], [0]])

    def test_a_hundred_long_waits(self):
        self.assertEqual(run(*[wait(1000)] * 100), [[0]] * 100)

    def test_256_wait(self):
        for head in (0, 255, NUMBERS_END - 1, NUMBERS_END - 256):
            told = run(write_numbers(head, (head + 256) % NUMBERS_END), wait(0), wait(1000))
            self.assertEqual(told[1:], [[256], [256]])

    def test_damaged_ones_wait_too(self):
        self.assertEqual(run(write_numbers(0, 9), wait(0)), [[], [9]])

    def test_looks_out_of_its_range(self):
        for looks in (-1, 1001, -1000, LOWEST, HIGHEST):
            self.assertEqual(run(wait(looks), put(1, []), wait(looks), wait(0)), [[-2], [0], [-2], [1]])

    def test_wrong_numbers(self):
        for head, tail in ((0, 257), (1, 0), (0, NUMBERS_END - 1), (NUMBERS_END - 1, 256), (0, 1 << 32), (0, 512)):
            told = run(write_numbers(head, tail), wait(0), wait(1000), peek_numbers())
            self.assertEqual(told[1:], [[-4], [-4], numbers_told(head, tail)])

    def test_out_of_range_comes_before_wrong_numbers(self):
        told = run(write_numbers(0, 257), wait(-1), wait(1001), wait(LOWEST), wait(HIGHEST), wait(1000))
        self.assertEqual(told[1:], [[-2]] * 4 + [[-4]])

    def test_every_byte_of_the_numbers_counts(self):
        for at in range(16):
            told = run(write(at, [2]), wait(0))
            self.assertEqual(told[1], [2] if at == 8 else [-4])

    def test_nothing_changes(self):
        full = full_ring(300)
        told = run(full, wait(1000), wait(-1), peek(0, 12000))
        self.assertEqual(told[3], full[3:12003])


if __name__ == "__main__":
    unittest.main()
