"""Promise 6: rg_sound."""

import unittest

from tests.ringcalls import HEADS, LONG_PATTERNS, NUMBERS_END, PATTERNS, WRONG_NUMBERS, RingTest, damaged_slots
from tests.ringcalls import full_ring, noisy_ring, pattern_slots, peek_ring, place, put, run, slot, sound, take, write
from tests.ringcalls import write_numbers


def sound_told(pattern):
    """What rg_sound tells of the messages of a pattern."""
    signs = pattern.ljust(256, ".")
    told = [pattern.count("s")]
    for first in range(0, 256, 8):
        lowest_last = ["1" if sign == "s" else "0" for sign in reversed(signs[first:first + 8])]
        told.append(int("".join(lowest_last), 2))
    return told


class Sound(RingTest):
    def hold(self, head, pattern):
        ring = noisy_ring(head, pattern_slots(head, pattern))
        with self.subTest(head=head, pattern=pattern):
            self.assertEqual(run(write(0, ring), sound(), peek_ring()), [[], sound_told(pattern), ring])

    def test_the_first_is_bit_0_of_byte_0(self):
        told = run(put(1, [1]), put(2, [2]), put(3, [3]), write(place(1), [9]), sound(), take(), sound())
        self.assertEqual(told[4], [2, 5] + [0] * 31)
        self.assertEqual(told[6], [1, 2] + [0] * 31)

    def test_the_ninth_is_bit_0_of_byte_1(self):
        self.assertEqual(run(*[put(1, [k]) for k in range(9)], sound())[9], [9, 255, 1] + [0] * 30)

    def test_none_waits(self):
        self.assertEqual(run(sound()), [[0] * 33])
        self.assertEqual(run(put(1, []), take(), sound())[2], [0] * 33)
        for head in HEADS:
            self.assertEqual(run(full_ring(head), write_numbers(head, head), sound())[2], [0] * 33)

    def test_some_sound_and_some_damaged(self):
        for head in HEADS:
            for pattern in PATTERNS:
                self.hold(head, pattern)

    def test_256_wait(self):
        for head in (0, 77, NUMBERS_END - 100):
            for pattern in LONG_PATTERNS:
                self.hold(head, pattern)

    def test_256_sound(self):
        for head in HEADS:
            self.assertEqual(run(full_ring(head), sound())[1], [256] + [255] * 32)

    def test_each_place_by_itself(self):
        for k in range(256):
            self.hold(200, "d" * k + "s" + "d" * (255 - k))

    def test_bits_of_those_that_do_not_wait_are_0(self):
        for head in (0, 200, NUMBERS_END - 3):
            for first, count in ((0, 1), (0, 255), (1, 255), (100, 7), (100, 8), (255, 1)):
                begin = (head + first) % NUMBERS_END
                end = (begin + count) % NUMBERS_END
                told = run(full_ring(head), write_numbers(begin, end), sound())
                self.assertEqual(told[2], sound_told("s" * count))

    def test_every_way_to_be_damaged(self):
        for number in (0, 255, 256, NUMBERS_END - 1):
            for name, damaged in damaged_slots(number):
                head = (number - 1) % NUMBERS_END
                ring = noisy_ring(head, [slot(head, 1, [1]), damaged, slot(number + 1, 2, [2])])
                with self.subTest(number=number, name=name):
                    self.assertEqual(run(write(0, ring), sound())[1], [2, 5] + [0] * 31)

    def test_a_message_one_round_too_old(self):
        told = run(full_ring(0), write_numbers(256, 300), sound())
        self.assertEqual(told[2], [0] * 33)

    def test_wrong_numbers(self):
        for head, tail in WRONG_NUMBERS:
            ring = full_ring(head)[3:]
            told = run(write(0, ring), write_numbers(head, tail), sound(), peek_ring())
            self.assertEqual(told[2], [-4])
            self.assertEqual(told[3], run(write(0, ring), write_numbers(head, tail), peek_ring())[2])


if __name__ == "__main__":
    unittest.main()
