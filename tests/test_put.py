"""Promise 2: rg_put, and the slot that it lays down."""

import unittest

from tests.ringcalls import NUMBERS_END, RING_SIZE, RingTest, full_message_told, full_ring, look, message_told
from tests.ringcalls import numbers_told, peek, peek_numbers, place, put, run, slot, take, wait, write, write_numbers


class Put(RingTest):
    def test_the_slot_byte_by_byte(self):
        told = run(put(0x1234, [10, 20, 30]), peek(0, 192))
        head_and_tail = [0] * 8 + [1] + [0] * 7
        first_60 = [0] * 8 + [0x34, 0x12, 3, 0, 10, 20, 30] + [0] * 45
        # The sum is 0x301C23FE, worked out by a processor's own CRC-32C step.
        self.assertEqual(told, [[0], head_and_tail + [0] * 48 + first_60 + [0xFE, 0x23, 0x1C, 0x30] + [0] * 64])

    def test_messages_in_their_order(self):
        messages = [(0, []), (65535, [255] * 48), (256, [1, 0, 2]), (1, list(range(48)))]
        told = run(*([put(kind, data) for kind, data in messages] + [look(k) for k in range(4)] + [take()] * 4))
        expected = [message_told(kind, data) for kind, data in messages]
        self.assertEqual(told, [[0]] * 4 + expected + expected)

    def test_every_length(self):
        for n in range(49):
            data = [255 - k for k in range(n)]
            told = run(put(n, data), peek(64, 64), take())
            self.assertEqual(told, [[0], slot(0, n, data), message_told(n, data)])

    def test_what_stood_in_the_slot_is_gone(self):
        told = run(write(16, [170] * (RING_SIZE - 16)), put(7, [1]), peek(16, 176))
        self.assertEqual(told[1:], [[0], [170] * 48 + slot(0, 7, [1]) + [170] * 64])

    def test_the_next_number_has_all_its_bytes(self):
        number = 0x0102030405060708
        told = run(write_numbers(number, number), put(9, [4]), peek(place(number), 64), peek_numbers(), take())
        self.assertEqual(told[1:], [[0], slot(number, 9, [4]), numbers_told(number, number + 1), message_told(9, [4])])

    def test_the_slots_go_round(self):
        told = run(
            write_numbers(254, 254), put(1, [1]), put(2, [2]), put(3, [3]), peek(place(254), 128), peek(64, 128),
            peek_numbers(), take(), take(), take(), take())
        self.assertEqual(told[4], slot(254, 1, [1]) + slot(255, 2, [2]))
        self.assertEqual(told[5], slot(256, 3, [3]) + [0] * 64)
        self.assertEqual(told[6], numbers_told(254, 257))
        self.assertEqual(told[7:], [message_told(1, [1]), message_told(2, [2]), message_told(3, [3]), [-1]])

    def test_the_numbers_go_round(self):
        last = NUMBERS_END - 1
        told = run(
            write_numbers(last, last), put(1, [1]), peek_numbers(), put(2, [2]), peek_numbers(),
            peek(place(last), 64), peek(64, 64), look(0), look(1), look(2))
        self.assertEqual(told[1:], [
            [0], numbers_told(last, 0), [0], numbers_told(last, 1), slot(last, 1, [1]), slot(0, 2, [2]),
            message_told(1, [1]), message_told(2, [2]), [-1]])

    def test_one_more_than_256(self):
        for head in (0, 100, NUMBERS_END - 3):
            told = run(full_ring(head), put(1, [1]), wait(0), look(0), look(255), take(), put(1, [1]), put(1, [1]))
            self.assertEqual(told[1:], [
                [-1], [256], full_message_told(head), full_message_told(head + 255), full_message_told(head),
                [0], [-1]])

    def test_the_256th(self):
        told = run(full_ring(7), write_numbers(7, 262), put(1, [1]), put(1, [2]), wait(0), look(255))
        self.assertEqual(told[2:], [[0], [-1], [256], message_told(1, [1])])

    def test_256_puts_one_after_another(self):
        # A list has at most 100 calls, so what one list leaves is handed on to the next as bytes.
        ring = [0] * RING_SIZE
        for part in range(4):
            puts = [put(part, [k]) for k in range(64)]
            half = RING_SIZE // 2
            calls = [write(0, ring)] + puts
            ring = run(*(calls + [peek(0, half)]))[-1] + run(*(calls + [peek(half, RING_SIZE - half)]))[-1]
        told = run(write(0, ring), wait(0), put(0, []), look(0), look(64), look(255))
        self.assertEqual(told[1:], [
            [256], [-1], message_told(0, [0]), message_told(1, [0]), message_told(3, [63])])

    def test_a_refusal_changes_nothing(self):
        full = full_ring(100)
        self.assertEqual(run(full, put(1, [1]), peek(0, 13000))[1:], [[-1], full[3:13003]])
        self.assertEqual(run(full, put(1, [1]), peek(13000, 3448))[1:], [[-1], full[13003:]])

    def test_wrong_numbers(self):
        for head, tail in ((0, 257), (1, 0), (0, NUMBERS_END - 1), (5, 1 << 63), (NUMBERS_END - 1, 256)):
            told = run(write_numbers(head, tail), put(1, [1]), peek_numbers(), peek(16, 10000))
            self.assertEqual(told[1:], [[-4], numbers_told(head, tail), [0] * 10000])


if __name__ == "__main__":
    unittest.main()
