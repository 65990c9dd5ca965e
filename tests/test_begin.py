"""Promise 1: rg_begin."""

import unittest

from tests.ringcalls import RING_SIZE, RingTest, begin, full_ring, look, message_told, numbers_told, peek, peek_numbers
from tests.ringcalls import put, run, take, wait, write, write_numbers


class Begin(RingTest):
    def test_head_and_tail_are_0(self):
        told = run(put(1, [1]), put(2, [2]), take(), peek_numbers(), begin(), peek_numbers(), wait(0))
        self.assertEqual(told[3], numbers_told(1, 2))
        self.assertEqual(told[4:], [[0], numbers_told(0, 0), [0]])

    def test_wrong_numbers_do_not_hold_it_up(self):
        told = run(write_numbers(5, 4), take(), begin(), peek_numbers(), take())
        self.assertEqual(told, [[], [-4], [0], numbers_told(0, 0), [-1]])

    def test_every_byte_of_head_and_tail(self):
        self.assertEqual(run(write(0, [255] * 16), begin(), peek(0, 16)), [[], [0], [0] * 16])

    def test_all_else_stays(self):
        ring = [(k * 11 + 3) % 256 for k in range(RING_SIZE)]
        self.assertEqual(run(write(0, ring), begin(), peek(16, 13000))[1:], [[0], ring[16:13016]])
        self.assertEqual(run(write(0, ring), begin(), peek(13016, 3432))[1:], [[0], ring[13016:]])

    def test_slots_stay_sound(self):
        told = run(full_ring(0), begin(), look(0), write_numbers(0, 256), look(0), look(255))
        self.assertEqual(told[1:], [[0], [-1], [], message_told(0, [0]), message_told(255, [255])])

    def test_the_next_number_is_0_again(self):
        told = run(put(1, [1]), put(2, [2]), begin(), put(3, [3]), peek(64, 8), peek_numbers(), take())
        self.assertEqual(told[3:], [[0], [0] * 8, numbers_told(0, 1), message_told(3, [3])])


if __name__ == "__main__":
    unittest.main()
