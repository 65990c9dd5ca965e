"""The form of what is handed in and given back, and what others do."""

import unittest

from sharedring.ring import UnknownCall, answers
from tests.ringcalls import RING_SIZE, RingTest, begin, full_ring, look, mend, message_told, noisy_ring, numbers_told
from tests.ringcalls import pattern_slots, peek, peek_ring, put, run, sound, sum_of, take, wait, write, write_numbers


def refuse_change(*words, **named):
    raise AssertionError("what is handed in is changed")


class OnlyRead(list):
    """A list that can't be changed, not for a while either."""
    __setitem__ = __delitem__ = __iadd__ = __imul__ = refuse_change
    append = clear = extend = insert = pop = remove = reverse = sort = refuse_change


def calls_of_all_kinds():
    """Every call, refused and not, on a damaged ring, as one list."""
    ring = noisy_ring(250, pattern_slots(250, "sdssddsdsd"))
    calls = [
        sound(), mend(), write(0, ring), sound(), look(0), look(1), look(256), take(), take(), mend(), peek_ring(),
        sound(), put(3, [1, 2, 3]), sum_of([1, 2, 3]), sum_of([]), write_numbers(1, 0), sound(), mend(), mend(),
        put(4, [4]), wait(5), wait(-1), peek(0, 300), begin(), sum_of([9] * 1000), peek_ring()]
    return [number for call in calls for number in call]


class Interface(RingTest):
    def test_answers_stand_behind_their_count(self):
        calls = [0, 1, 258, 2, 7, 9, 3, 0, 4, 0, 2, 2, 8, 100, 1, 5, 9, 99, 3]
        message = [2, 2, 1, 7, 9] + [0] * 46
        self.assertEqual(
            answers(calls),
            [1, 0, 1, 0, 1, 1, 51] + message + [51] + message + [1, -1, 0, 3, 0, 5, 0])

    def test_answers_of_sound_mend_and_sum_stand_behind_their_count(self):
        calls = [1, 0, 0, 1, 0, 0, 8, 64, 1, 9, 5, 6, 7, 1, 0, 7, 0, 8, 15, 1, 1, 5, 6, 6]
        self.assertEqual(answers(calls), (
            [1, 0, 1, 0, 0, 33, 1, 2] + [0] * 31 + [1, 1, 5, 0, 0x51, 0x53, 0x7D, 0x52, 5, 0, 0, 0, 0, 0]
            + [0, 1, -4, 1, -4, 1, 0]))

    def test_answers_are_a_list_of_whole_numbers(self):
        told = answers(calls_of_all_kinds())
        self.assertIs(type(told), list)
        self.assertEqual({type(number) for number in told}, {int})

    def test_what_is_handed_in_stays(self):
        calls = calls_of_all_kinds()
        before = list(calls)
        told = answers(calls)
        self.assertEqual(calls, before)
        self.assertEqual(answers(OnlyRead(calls)), told)

    def test_nothing_is_kept_from_one_time_to_the_next(self):
        calls = wait(0) + put(3, [1, 2, 3]) + write(16, [7] * 48) + peek(0, RING_SIZE)
        first = answers(calls)
        answers(put(9, [9]) + write(0, [255] * RING_SIZE))
        self.assertEqual(answers(calls), first)

    def test_a_second_time_answers_as_the_first(self):
        calls = calls_of_all_kinds()
        first = answers(calls)
        self.assertEqual(answers(calls), first)
        answers(full_ring(7) + mend() + sound())
        self.assertEqual(answers(list(calls)), first)

    def test_what_is_given_back_is_its_takers_own(self):
        first = answers(peek(0, 64))
        first.clear()
        self.assertEqual(answers(peek(0, 64)), [64] + [0] * 64)

    def test_every_byte_is_zero_at_first(self):
        self.assertEqual(run(peek(0, RING_SIZE)), [[0] * RING_SIZE])

    def test_any_call_may_be_the_first(self):
        self.assertEqual(run(begin()), [[0]])
        self.assertEqual(run(put(0, [])), [[0]])
        self.assertEqual(run(take()), [[-1]])
        self.assertEqual(run(wait(0)), [[0]])
        self.assertEqual(run(look(0)), [[-1]])
        self.assertEqual(run(sound()), [[0] * 33])
        self.assertEqual(run(mend()), [[0]])
        self.assertEqual(run(sum_of([])), [[0] * 5])
        self.assertEqual(run(write(0, [])), [[]])
        self.assertEqual(run(peek(0, 0)), [[]])

    def test_a_hundred_calls(self):
        told = run(*([put(5, [k]) for k in range(50)] + [take()] * 50))
        self.assertEqual(told, [[0]] * 50 + [message_told(5, [k]) for k in range(50)])

    def test_a_number_that_no_call_has(self):
        for number in (-1, 10):
            with self.assertRaises(UnknownCall):
                answers([number])


class Others(RingTest):
    def test_write_answers_nothing_and_lays_its_bytes(self):
        told = run(write(100, [1, 2, 255]), peek(98, 7))
        self.assertEqual(told, [[], [0, 0, 1, 2, 255, 0, 0]])

    def test_write_at_the_edges(self):
        told = run(write(0, [1]), write(RING_SIZE - 1, [2]), write(RING_SIZE - 1, []), peek(0, RING_SIZE))
        self.assertEqual(told, [[], [], [], [1] + [0] * (RING_SIZE - 2) + [2]])

    def test_write_the_whole_ring(self):
        ring = [(k * 7 + k // 256) % 256 for k in range(RING_SIZE)]
        told = run(write(0, ring), peek(0, RING_SIZE // 2), peek(RING_SIZE // 2, RING_SIZE // 2))
        self.assertEqual(told, [[], ring[:RING_SIZE // 2], ring[RING_SIZE // 2:]])

    def test_write_no_bytes(self):
        ring = noisy_ring(9, [])
        for at in (0, 1, 8, 64, RING_SIZE - 1):
            self.assertEqual(run(write(0, ring), write(at, []), peek_ring()), [[], [], ring])

    def test_write_as_many_as_there_is_room_for(self):
        for at in (1, 15, 64, 16000, RING_SIZE - 2, RING_SIZE - 1):
            told = run(write(at, [6] * (RING_SIZE - at)), peek_ring())
            self.assertEqual(told, [[], [0] * at + [6] * (RING_SIZE - at)])

    def test_look_from_anywhere_to_the_end(self):
        ring = noisy_ring(9, [])
        for at in (0, 1, 63, 64, 16000, RING_SIZE - 2, RING_SIZE - 1, RING_SIZE):
            self.assertEqual(run(write(0, ring), peek(at, RING_SIZE - at))[1], ring[at:])

    def test_look_changes_nothing(self):
        ring = noisy_ring(9, [])
        self.assertEqual(run(write(0, ring), peek_ring(), peek(5, 0), peek_ring())[1:], [ring, [], ring])

    def test_look_at_the_edges(self):
        self.assertEqual(run(peek(RING_SIZE, 0), peek(0, 0), peek(RING_SIZE - 1, 1)), [[], [], [0]])

    def test_others_are_not_held_up_by_wrong_numbers(self):
        told = run(write(0, [0] * 8 + [255] * 8), write(20, [4]), peek(20, 1), peek(0, 16))
        self.assertEqual(told, [[], [], [4], numbers_told(0, (1 << 64) - 1)])


if __name__ == "__main__":
    unittest.main()
