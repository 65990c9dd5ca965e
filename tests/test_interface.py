"""The form of what is handed in and given back, and what others do."""

import unittest

from sharedring.ring import UnknownCall, answers
from tests.ringcalls import RING_SIZE, begin, look, message_told, numbers_told, peek, put, run, take, wait, write


def refuse_change(*words, **named):
    raise AssertionError("what is handed in is changed")


class OnlyRead(list):
    """A list that can't be changed, not for a while either."""
    __setitem__ = __delitem__ = __iadd__ = __imul__ = refuse_change
    append = clear = extend = insert = pop = remove = reverse = sort = refuse_change


class Interface(unittest.TestCase):
    def test_answers_stand_behind_their_count(self):
        calls = [0, 1, 258, 2, 7, 9, 3, 0, 4, 0, 2, 2, 8, 100, 1, 5, 9, 99, 3]
        message = [2, 2, 1, 7, 9] + [0] * 46
        self.assertEqual(
            answers(calls),
            [1, 0, 1, 0, 1, 1, 51] + message + [51] + message + [1, -1, 0, 3, 0, 5, 0])

    def test_answers_are_a_list_of_whole_numbers(self):
        told = answers(put(3, [1]) + look(0) + wait(0) + peek(0, 100))
        self.assertIs(type(told), list)
        self.assertEqual({type(number) for number in told}, {int})

    def test_what_is_handed_in_stays(self):
        calls = put(3, [1, 2, 3]) + look(0) + take() + take() + write(0, [9] * 200) + peek(0, 300) + wait(-1) + begin()
        before = list(calls)
        told = answers(calls)
        self.assertEqual(calls, before)
        self.assertEqual(answers(OnlyRead(calls)), told)

    def test_nothing_is_kept_from_one_time_to_the_next(self):
        calls = wait(0) + put(3, [1, 2, 3]) + write(16, [7] * 48) + peek(0, RING_SIZE)
        first = answers(calls)
        answers(put(9, [9]) + write(0, [255] * RING_SIZE))
        self.assertEqual(answers(calls), first)

    def test_what_is_given_back_is_its_takers_own(self):
        first = answers(peek(0, 64))
        first.clear()
        self.assertEqual(answers(peek(0, 64)), [64] + [0] * 64)

    def test_every_byte_is_zero_at_first(self):
        self.assertEqual(run(peek(0, RING_SIZE)), [[0] * RING_SIZE])

    def test_any_call_may_be_the_first(self):
        self.assertEqual(run(begin()), [[0]])
        self.assertEqual(run(put(0, [])), [[0]])
        self.assertEqual(run(take()), [[-1]])
        self.assertEqual(run(wait(0)), [[0]])
        self.assertEqual(run(look(0)), [[-1]])
        self.assertEqual(run(write(0, [])), [[]])
        self.assertEqual(run(peek(0, 0)), [[]])

    def test_a_hundred_calls(self):
        told = run(*([put(5, [k]) for k in range(50)] + [take()] * 50))
        self.assertEqual(told, [[0]] * 50 + [message_told(5, [k]) for k in range(50)])

    def test_a_number_that_no_call_has(self):
        for number in (-1, 10):
            with self.assertRaises(UnknownCall):
                answers([number])


class Others(unittest.TestCase):
    def test_write_answers_nothing_and_lays_its_bytes(self):
        told = run(write(100, [1, 2, 255]), peek(98, 7))
        self.assertEqual(told, [[], [0, 0, 1, 2, 255, 0, 0]])

    def test_write_at_the_edges(self):
        told = run(write(0, [1]), write(RING_SIZE - 1, [2]), write(RING_SIZE - 1, []), peek(0, RING_SIZE))
        self.assertEqual(told, [[], [], [], [1] + [0] * (RING_SIZE - 2) + [2]])

    def test_write_the_whole_ring(self):
        ring = [(k * 7 + k // 256) % 256 for k in range(RING_SIZE)]
        told = run(write(0, ring), peek(0, RING_SIZE // 2), peek(RING_SIZE // 2, RING_SIZE // 2))
        self.assertEqual(told, [[], ring[:RING_SIZE // 2], ring[RING_SIZE // 2:]])

    def test_look_at_the_edges(self):
        self.assertEqual(run(peek(RING_SIZE, 0), peek(0, 0), peek(RING_SIZE - 1, 1)), [[], [], [0]])

    def test_others_are_not_held_up_by_wrong_numbers(self):
        told = run(write(0, [0] * 8 + [255] * 8), write(20, [4]), peek(20, 1), peek(0, 16))
        self.assertEqual(told, [[], [], [4], numbers_told(0, (1 << 64) - 1)])


if __name__ == "__main__":
    unittest.main()
