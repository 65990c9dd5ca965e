"""Promise 3: rg_take."""

import unittest

from tests.ringcalls import NUMBERS_END, RingTest, damaged_slots, full_message_told, full_ring, message_told
from tests.ringcalls import numbers_told, peek, peek_numbers, place, put, run, slot, take, wait, write, write_head
from tests.ringcalls import write_numbers, write_tail


class Take(RingTest):
    def test_none_waits(self):
        self.assertEqual(run(take(), peek_numbers()), [[-1], numbers_told(0, 0)])
        self.assertEqual(run(put(1, [1]), take(), take(), peek_numbers())[2:], [[-1], numbers_told(1, 1)])

    def test_none_waits_though_the_slot_is_sound(self):
        self.assertEqual(run(write(64, slot(0, 1, [1])), take()), [[], [-1]])

    def test_the_first_that_waits(self):
        told = run(put(1, [1]), put(515, [2, 3]), take(), peek_numbers(), take(), peek_numbers())
        self.assertEqual(told[2:], [
            message_told(1, [1]), numbers_told(1, 2), message_told(515, [2, 3]), numbers_told(2, 2)])

    def test_no_byte_and_48_bytes(self):
        told = run(put(65535, []), put(256, list(range(1, 49))), take(), take())
        self.assertEqual(told[2:], [[0, 255, 255] + [0] * 48, [48, 0, 1] + list(range(1, 49))])

    def test_only_head_changes(self):
        told = run(put(1, [1]), put(2, [2]), write(16, [77] * 48), take(), peek(8, 1000))
        self.assertEqual(told[4], [2] + [0] * 7 + [77] * 48 + slot(0, 1, [1]) + slot(1, 2, [2]) + [0] * 816)

    def test_a_slot_that_others_made_sound(self):
        told = run(write(64, slot(0, 772, [5] * 48)), write_tail(1), take())
        self.assertEqual(told[2], message_told(772, [5] * 48))

    def test_damaged(self):
        for number in (0, 1, 255, 256, 70000, NUMBERS_END - 1):
            for name, damaged in damaged_slots(number):
                behind = (number + 1) % NUMBERS_END
                tail = (number + 2) % NUMBERS_END
                with self.subTest(number=number, name=name):
                    told = run(
                        write_numbers(number, tail), write(place(number), damaged),
                        write(place(behind), slot(behind, 6, [6])), take(), peek_numbers(), peek(place(number), 64),
                        take())
                    self.assertEqual(told[3:], [
                        [-3], numbers_told(behind, tail), damaged, message_told(6, [6])])

    def test_nothing_but_damaged_ones(self):
        told = run(write_tail(3), take(), take(), take(), take(), peek_numbers())
        self.assertEqual(told[1:], [[-3], [-3], [-3], [-1], numbers_told(3, 3)])

    def test_head_goes_round(self):
        last = NUMBERS_END - 1
        told = run(
            write_numbers(last, 1), write(place(last), slot(last, 1, [1])), write(64, slot(0, 2, [2])),
            take(), peek_numbers(), take(), peek_numbers(), take())
        self.assertEqual(told[3:], [
            message_told(1, [1]), numbers_told(0, 1), message_told(2, [2]), numbers_told(1, 1), [-1]])

    def test_head_goes_round_past_a_damaged_one(self):
        told = run(write_numbers(NUMBERS_END - 1, 0), take(), peek_numbers())
        self.assertEqual(told[1:], [[-3], numbers_told(0, 0)])

    def test_head_carries_over_its_bytes(self):
        told = run(write_numbers(0xFFFFFF, 0x1000001), take(), peek_numbers())
        self.assertEqual(told[1:], [[-3], numbers_told(0x1000000, 0x1000001)])

    def test_a_full_ring(self):
        for head in (0, 200, NUMBERS_END - 50):
            told = run(*([full_ring(head)] + [take()] * 98 + [wait(0)]))
            self.assertEqual(told[1:], [full_message_told(head + k) for k in range(98)] + [[158]])

    def test_wrong_numbers(self):
        for head, tail in ((0, 257), (1, 0), (3, NUMBERS_END - 1), (1 << 40, 0), (NUMBERS_END - 1, 256)):
            told = run(
                write_numbers(head, tail), write(place(head), slot(head, 1, [1])), take(), peek_numbers())
            self.assertEqual(told[2:], [[-4], numbers_told(head, tail)])

    def test_numbers_that_are_right_again(self):
        told = run(put(1, [1]), write_head(2), take(), write_head(0), take())
        self.assertEqual(told, [[0], [], [-4], [], message_told(1, [1])])


if __name__ == "__main__":
    unittest.main()
