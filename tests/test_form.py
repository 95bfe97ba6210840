"""The interface: how calls are handed in, and how answers are given back."""

import unittest

from tests.lines import BIGGEST, add, again, back, ball, bits, clear, drop, far, fewest, idle, joined, least, line, look
from tests.lines import lonely, near, one, post, posts, put, road, serves, share, start, state, village, widest, within
from tests.lines import worst
from valleyposts.valley import answers

# Each call, and behind it what is told of it.
EACH = (
    (start(), [1, 0]), (village(0, 5), [1, 1]), (village(1, 5), [1, 2]), (road(2, 6), [1, 5]), (post(1, 1), [1, 1]),
    (put(5), [2, 1, bits(2)]), (post(0, 1), [1, 3]), (put(0), [1, -17]), (clear(), [1, 3]), (far(0, 2), [1, 11]),
    (ball(1, 5), [2, 2, bits(0, 1)]), (share(0, 1, 5), [1, 0]), (fewest(5), [2, 2, bits(1, 2)]),
    (lonely(0), [2, 3, bits(0, 1, 2)]), (least(1), [2, 6, bits(1)]), (back(), [1, 6]), (add(0), [2, 0, 0]),
    (within(0), [2, 1, 0]), (near(2), [2, 2, 0]), (worst(), [2, 0, 0]), (idle(5), [2, 2, bits(0, 1)]),
    (one(6, 6), [1, 1]), (widest(), [3, 11, 0, 2]), (serves(1, 9), [2, 1, bits(1)]), (look(2), [3, 1, 1, 6]),
    (posts(), [2, 3, 7]), (state(), [3, 3, 6, 1]), (again(), [1, 0]), (state(), [3, 3, 7, 0]), (drop(), [1, 2]),
)
ONE_OF_EACH = joined([call for call, told in EACH])


class Form(unittest.TestCase):
    def test_counts_and_answers(self):
        self.assertEqual(answers(ONE_OF_EACH), joined([told for call, told in EACH]))

    def test_all_calls_are_among_them(self):
        self.assertEqual(sorted({call[0] for call, told in EACH}), list(range(26)))

    def test_start_alone(self):
        self.assertEqual(answers([0]), [1, 0])

    def test_refusals_are_one_number_alone(self):
        calls = [start(), village(1, 5), village(0, 0), road(0, 5), drop(), post(0, 0), put(1000001), clear(),
                 far(0, 1), ball(1, 0), share(0, 1, 0), least(0), near(1), near(0), worst(), idle(0), one(2, 0),
                 serves(1, 0), look(1), back(), again()]
        told = [0, -2, -22, -33, -33, -17, -22, -17, -2, -2, -2, -22, -2, -6, -6, -33, -22, -2, -2, -2, -2]
        self.assertEqual(answers(joined(calls)), joined([1, number] for number in told))

    def test_start_in_the_middle_makes_all_new(self):
        self.assertEqual(answers(ONE_OF_EACH + ONE_OF_EACH), answers(ONE_OF_EACH) * 2)
        self.assertEqual(answers([0, 0, 0]), [1, 0] * 3)

    def test_list_handed_in_is_as_it_was(self):
        calls = list(ONE_OF_EACH)
        told = answers(calls)
        self.assertEqual(calls, ONE_OF_EACH)
        self.assertIsNot(told, calls)

    def test_the_same_twice(self):
        calls = list(ONE_OF_EACH)
        once = answers(calls)
        self.assertEqual(answers(calls), once)

    def test_nothing_is_kept_between(self):
        answers(joined(line([5] * 9, posts=[0, 4])))
        self.assertEqual(answers(joined([start(), far(0, 1), clear(), fewest(0), state(), back(), again()])),
                         [1, 0, 1, -2, 1, -17, 2, 1, 1, 3, 1, 0, 0, 1, -2, 1, -2])

    def test_what_is_given_back_is_not_kept(self):
        told = answers(ONE_OF_EACH)
        kept = list(told)
        told.append(7)
        self.assertEqual(answers(ONE_OF_EACH), kept)

    def test_kinds(self):
        told = answers(ONE_OF_EACH)
        self.assertIs(type(told), list)
        for number in told:
            self.assertIs(type(number), int)

    def test_numbers_like_those_of_calls_are_read_as_given(self):
        # Each number behind a call's own is also the number of some call.
        self.assertEqual(answers([0, 1, 0, 12, 2, 1, 3, 7, 1, 0, 9, 0, 1, 3, 8, 0, 3]),
                         [1, 0, 1, 1, 1, 12, 1, 3, 1, 0, 2, 2, bits(0, 1)])
        self.assertEqual(answers([0, 1, 0, 19, 20, 0, 22, 18, 3, 23, 13, 24, 14, 25, 15, 1, 21, 1, 25]),
                         [1, 0, 1, 1, 2, 0, 0, 1, 0, 2, 1, 2, 2, 0, 3, 1, -6, 3, 0, 0, 19, 3, 2, 1, 0])

    def test_a_thousand_calls(self):
        calls = line([1000] * 9) + [least(4), fewest(BIGGEST), lonely(0)] * 330
        told = answers(joined(calls))
        behind = [2, 1000, bits(1, 4, 7, 9), 2, 1, bits(9), 2, 10, 1023]
        self.assertEqual(told[20:], behind * 330)
        self.assertEqual(len(calls), 1000)

    def test_a_thousand_changes_and_steps_back(self):
        calls = [start()] + [village(0, 5)] + [post(1, 1), post(1, 0), back(), again()] * 249 + [state(), back()]
        told = answers(joined(calls))
        self.assertEqual(len(calls), 1000)
        self.assertEqual(told[-6:], [3, 2, 20, 0, 1, 19])
