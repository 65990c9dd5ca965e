"""Promise 4: rg_look."""

import unittest

from tests.ringcalls import HIGHEST, LOWEST, NUMBERS_END, RingTest, damaged_slots, full_message_told, full_ring, look
from tests.ringcalls import message_told, numbers_told, peek, peek_numbers, place, put, run, slot, take, write
from tests.ringcalls import write_numbers


class Look(RingTest):
    def test_the_k_th_that_waits(self):
        told = run(put(1, [1]), put(2, [2, 2]), put(3, []), look(2), look(0), look(1), look(0))
        self.assertEqual(told[3:], [
            message_told(3, []), message_told(1, [1]), message_told(2, [2, 2]), message_told(1, [1])])

    def test_k_counts_from_head(self):
        told = run(put(1, [1]), put(2, [2]), take(), look(0), look(1))
        self.assertEqual(told[3:], [message_told(2, [2]), [-1]])

    def test_no_byte_and_48_bytes(self):
        told = run(put(65535, []), put(256, [255] * 48), look(0), look(1))
        self.assertEqual(told[2:], [[0, 255, 255] + [0] * 48, [48, 0, 1] + [255] * 48])

    def test_no_more_than_k_wait(self):
        told = run(look(0), look(255), put(1, [1]), look(0), look(1), look(255))
        self.assertEqual(told, [[-1], [-1], [0], message_told(1, [1]), [-1], [-1]])

    def test_every_k_of_a_full_ring(self):
        for head in (0, 100, 256, NUMBERS_END - 100):
            for first in (0, 64, 128, 192):
                told = run(*([full_ring(head)] + [look(first + k) for k in range(64)]))
                self.assertEqual(told[1:], [full_message_told(head + first + k) for k in range(64)])

    def test_k_of_255_with_255_waiting(self):
        told = run(full_ring(9), write_numbers(9, 264), look(254), look(255))
        self.assertEqual(told[2:], [full_message_told(263), [-1]])

    def test_k_out_of_its_range(self):
        for k in (-1, 256, -256, 257, 65536, LOWEST, HIGHEST):
            told = run(full_ring(0), look(k), peek(0, 1000))
            self.assertEqual(told[1], [-2])
            self.assertEqual(told[2], full_ring(0)[3:1003])

    def test_nothing_changes(self):
        told = run(put(1, [1]), put(2, [2]), write(128, [3]), look(0), look(1), look(2), look(-1), peek(0, 200))
        self.assertEqual(told[3:7], [message_told(1, [1]), [-3], [-1], [-2]])
        damaged = [3] + slot(1, 2, [2])[1:]
        self.assertEqual(told[7], numbers_told(0, 2) + [0] * 48 + slot(0, 1, [1]) + damaged + [0] * 8)

    def test_damaged(self):
        for number in (0, 255, 256, NUMBERS_END - 1):
            for name, damaged in damaged_slots(number):
                head = (number - 1) % NUMBERS_END
                tail = (number + 1) % NUMBERS_END
                with self.subTest(number=number, name=name):
                    told = run(
                        write_numbers(head, tail), write(place(number), damaged),
                        write(place(head), slot(head, 6, [6])), look(1), look(0), peek_numbers(),
                        peek(place(number), 64))
                    self.assertEqual(told[3:], [[-3], message_told(6, [6]), numbers_told(head, tail), damaged])

    def test_wrong_numbers(self):
        for head, tail in ((0, 257), (1, 0), (3, NUMBERS_END - 1), (NUMBERS_END - 1, 256)):
            told = run(write_numbers(head, tail), look(0), look(255), peek_numbers())
            self.assertEqual(told[1:], [[-4], [-4], numbers_told(head, tail)])

    def test_the_order_of_the_refusals(self):
        # Out of range comes before wrong numbers, before too few, before damaged.
        told = run(look(256), write_numbers(1, 0), look(-1), look(256), look(0), write_numbers(0, 1), look(1), look(0))
        self.assertEqual(told, [[-2], [], [-2], [-2], [-4], [], [-1], [-3]])


if __name__ == "__main__":
    unittest.main()
