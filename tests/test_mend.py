"""Promise 7: rg_mend."""

import unittest

from tests.ringcalls import HEADS, LONG_PATTERNS, NUMBERS_END, PATTERNS, RING_SIZE, WRONG_NUMBERS, RingTest
from tests.ringcalls import damaged_slots, full_message_told, full_ring, laid, look, mend, message, message_told
from tests.ringcalls import noisy_ring, numbers_told, pattern_slots, peek, peek_numbers, peek_ring, place, put, run
from tests.ringcalls import slot, sound, take, wait, write, write_head, write_numbers


class Mend(RingTest):
    def hold(self, head, pattern):
        """Mend a ring with this pattern; hold the whole ring against what must stand there, byte for byte."""
        ring = noisy_ring(head, pattern_slots(head, pattern))
        kept = [message(k) for k, sign in enumerate(pattern) if sign == "s"]
        tail = (head + len(pattern)) % NUMBERS_END
        new_head = (tail - len(kept)) % NUMBERS_END
        mended = laid(ring, new_head, [slot(new_head + k, *one) for k, one in enumerate(kept)])
        mended[0:8] = numbers_told(new_head, tail)[:8]
        looks = [k for k in range(len(kept)) if k < 40 or k > len(kept) - 40]
        with self.subTest(head=head, pattern=pattern):
            told = run(
                write(0, ring), mend(), peek_ring(), wait(0), mend(), peek_ring(), *[look(k) for k in looks],
                look(min(len(kept), 255)))
            self.assertEqual(told[1], [len(pattern) - len(kept)])
            self.assertEqual(told[2], mended)
            # What is mended has nothing to drop, and stays as it is.
            self.assertEqual(told[3:6], [[len(kept)], [0], mended])
            self.assertEqual(told[6:-1], [message_told(*kept[k]) for k in looks])
            self.assertEqual(told[-1], [-1] if len(kept) < 256 else message_told(*kept[255]))

    def test_one_in_the_middle_byte_by_byte(self):
        told = run(
            put(1, [11]), put(2, [22, 23]), put(3, [33]), write(place(1), [9]), mend(), peek(0, 320), sound(), take(),
            take(), take())
        self.assertEqual(told[4], [1])
        slots = slot(0, 1, [11]) + slot(1, 1, [11]) + slot(2, 3, [33])
        self.assertEqual(told[5], numbers_told(1, 3) + [0] * 48 + slots + [0] * 64)
        self.assertEqual(told[6:], [[2, 3] + [0] * 31, message_told(1, [11]), message_told(3, [33]), [-1]])

    def test_nothing_waits(self):
        self.assertEqual(run(mend(), peek_ring()), [[0], [0] * RING_SIZE])
        for head in HEADS:
            ring = noisy_ring(head, [])
            self.assertEqual(run(write(0, ring), mend(), peek_ring()), [[], [0], ring])

    def test_some_sound_and_some_damaged(self):
        for head in HEADS:
            for pattern in PATTERNS:
                self.hold(head, pattern)

    def test_256_wait(self):
        for head in (0, 77, NUMBERS_END - 100):
            for pattern in LONG_PATTERNS:
                self.hold(head, pattern)

    def test_nothing_to_drop(self):
        for head in HEADS:
            full = full_ring(head)
            told = run(full, mend(), peek_ring(), look(0), look(255))
            self.assertEqual(told[1:], [[0], full[3:], full_message_told(head), full_message_told(head + 255)])

    def test_all_dropped(self):
        for head in HEADS:
            for count in (1, 2, 255, 256):
                tail = (head + count) % NUMBERS_END
                told = run(write_numbers(head, tail), mend(), peek_ring(), wait(0), take())
                self.assertEqual(told[1:], [
                    [count], numbers_told(tail, tail) + [0] * (RING_SIZE - 16), [0], [-1]])

    def test_the_one_that_is_kept_goes_all_the_way(self):
        for head in (0, 9, 255, NUMBERS_END - 5):
            self.hold(head, "s" + "d" * 255)
            self.hold(head, "d" * 100 + "s" + "d" * 155)

    def test_every_way_to_be_damaged(self):
        for number in (0, 255, 256, NUMBERS_END - 1):
            for name, damaged in damaged_slots(number):
                head = (number - 1) % NUMBERS_END
                ring = noisy_ring(head, [slot(head, 1, [1]), damaged, slot(number + 1, 2, [2])])
                with self.subTest(number=number, name=name):
                    told = run(write(0, ring), mend(), peek_numbers(), take(), take(), take())
                    self.assertEqual(told[1:], [
                        [1], numbers_told(number, (number + 2) % NUMBERS_END), message_told(1, [1]),
                        message_told(2, [2]), [-1]])

    def test_no_byte_and_48_bytes_are_kept(self):
        kept = [(0, []), (65535, [255] * 48), (256, [0, 0, 0])]
        puts = [put(kind, data) for kind, data in kept]
        told = run(*puts, put(9, [9]), write(place(3), [99]), mend(), take(), take(), take(), take())
        self.assertEqual(told[5:], [[1]] + [message_told(kind, data) for kind, data in kept] + [[-1]])

    def test_put_and_take_go_on(self):
        told = run(
            put(1, [1]), put(2, [2]), put(3, [3]), write(place(0), [7]), mend(), put(4, [4]), peek(place(3), 64),
            peek_numbers(), take(), take(), take(), take())
        self.assertEqual(told[4:], [
            [1], [0], slot(3, 4, [4]), numbers_told(1, 4), message_told(2, [2]), message_told(3, [3]),
            message_told(4, [4]), [-1]])

    def test_a_full_ring_has_room_again(self):
        told = run(full_ring(40), put(1, [1]), write(place(60), [255]), mend(), put(1, [1]), put(1, [1]), look(0))
        self.assertEqual(told[1:], [[-1], [], [1], [0], [-1], full_message_told(40)])

    def test_wrong_numbers(self):
        for head, tail in WRONG_NUMBERS:
            ring = noisy_ring(head, pattern_slots(head, "sdsd" * 64))
            ring[0:16] = numbers_told(head, tail)
            mended = numbers_told(tail, tail) + ring[16:]
            told = run(write(0, ring), mend(), peek_ring(), wait(0), mend(), peek_ring(), take(), put(1, [1]), take())
            self.assertEqual(told[1:], [[-4], mended, [0], [0], mended, [-1], [0], message_told(1, [1])])

    def test_256_are_not_wrong_and_257_are(self):
        for head in HEADS:
            full = full_ring(head)
            before = (head - 1) % NUMBERS_END
            tail = (head + 256) % NUMBERS_END
            told = run(full, mend(), wait(0), write_head(before), mend(), peek_numbers())
            self.assertEqual(told[1:], [[0], [256], [], [-4], numbers_told(tail, tail)])


if __name__ == "__main__":
    unittest.main()
