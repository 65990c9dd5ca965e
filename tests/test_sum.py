"""Promise 8: rg_sum."""

import struct
import unittest

from tests.ringcalls import WRONG_NUMBERS, RingTest, full_ring, noisy_ring, numbers_told, peek_ring, reference_sum, run
from tests.ringcalls import slot, sum_of, wait, write


def sum_told(data):
    return [0] + list(struct.pack("<I", reference_sum(data)))


class Sum(RingTest):
    def test_the_usual_check(self):
        self.assertEqual(run(sum_of(b"123456789")), [[0, 0x83, 0x92, 0x06, 0xE3]])

    def test_no_byte(self):
        self.assertEqual(run(sum_of([])), [[0, 0, 0, 0, 0]])

    def test_one_byte(self):
        # The sum of one byte 0 is 0x527D5351.
        self.assertEqual(run(sum_of([0])), [[0, 0x51, 0x53, 0x7D, 0x52]])
        for first in (0, 100, 200):
            several = range(first, min(first + 100, 256))
            self.assertEqual(run(*[sum_of([byte]) for byte in several]), [sum_told([byte]) for byte in several])

    def test_known_sums(self):
        # Those of RFC 3720, B.4, whose bytes stand there lowest first as well.
        told = run(sum_of([0] * 32), sum_of([255] * 32), sum_of(range(32)), sum_of(range(31, -1, -1)))
        self.assertEqual(told, [
            [0, 0xAA, 0x36, 0x91, 0x8A], [0, 0x43, 0xAB, 0xA8, 0x62], [0, 0x4E, 0x79, 0xDD, 0x46],
            [0, 0x5C, 0xDB, 0x3F, 0x11]])

    def test_the_sum_of_a_slot(self):
        one = slot(7, 8, [9, 10])
        self.assertEqual(run(sum_of(one[:60])), [[0] + one[60:]])

    def test_5000_bytes(self):
        for data in ([0] * 5000, [255] * 5000, [(k * k * 31 + k // 9) % 256 for k in range(5000)]):
            self.assertEqual(run(sum_of(data), sum_of(data[:4999])), [sum_told(data), sum_told(data[:4999])])

    def test_what_stands_behind_it_is_the_next_call(self):
        told = run(sum_of([1, 2, 3]), wait(0), sum_of([]), sum_of([7, 7]), wait(-1))
        self.assertEqual(told, [sum_told([1, 2, 3]), [0], [0] * 5, sum_told([7, 7]), [-2]])

    def test_the_ring_stays_as_it_was(self):
        for ring in ([0] * 16448, full_ring(100)[3:], noisy_ring(3, [])):
            told = run(write(0, ring), sum_of([5] * 5000), sum_of([]), peek_ring())
            self.assertEqual(told[1:], [sum_told([5] * 5000), [0] * 5, ring])

    def test_wrong_numbers_do_not_hold_it_up(self):
        for head, tail in WRONG_NUMBERS:
            ring = numbers_told(head, tail) + noisy_ring(0, [])[16:]
            told = run(write(0, ring), wait(0), sum_of(b"123456789"), peek_ring(), wait(0))
            self.assertEqual(told[1:], [[-4], [0, 0x83, 0x92, 0x06, 0xE3], ring, [-4]])


if __name__ == "__main__":
    unittest.main()
