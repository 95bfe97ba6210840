"""The interface: how calls are handed in, and how answers are given back."""

import unittest

from tests.lines import BIGGEST, ball, bits, clear, drop, far, fewest, joined, least, line, lonely, post, put, road
from tests.lines import share, start, village
from valleyposts.valley import answers

ONE_OF_EACH = joined([start(), village(0, 5), village(1, 5), road(2, 6), post(1, 1), put(5), post(0, 1), put(0),
                      clear(), far(0, 2), ball(1, 5), share(0, 1, 5), fewest(5), lonely(0), least(1), drop()])


class Form(unittest.TestCase):
    def test_counts_and_answers(self):
        self.assertEqual(answers(ONE_OF_EACH),
                         [1, 0, 1, 1, 1, 2, 1, 5, 1, 1, 2, 1, bits(2), 1, 3, 1, -17, 1, 3, 1, 11,
                          2, 2, bits(0, 1), 1, 0, 2, 2, bits(1, 2), 2, 3, bits(0, 1, 2), 2, 6, bits(1), 1, 2])

    def test_start_alone(self):
        self.assertEqual(answers([0]), [1, 0])

    def test_refusals_are_one_number_alone(self):
        calls = [start(), village(1, 5), village(0, 0), road(0, 5), drop(), post(0, 0), put(1000001), clear(),
                 far(0, 1), ball(1, 0), share(0, 1, 0), least(0)]
        self.assertEqual(answers(joined(calls)),
                         [1, 0, 1, -2, 1, -22, 1, -33, 1, -33, 1, -17, 1, -22, 1, -17, 1, -2, 1, -2, 1, -2, 1, -22])

    def test_start_in_the_middle_makes_all_new(self):
        self.assertEqual(answers(ONE_OF_EACH + ONE_OF_EACH), answers(ONE_OF_EACH) * 2)
        self.assertEqual(answers([0, 0, 0]), [1, 0] * 3)

    def test_list_handed_in_is_as_it_was(self):
        calls = list(ONE_OF_EACH)
        told = answers(calls)
        self.assertEqual(calls, ONE_OF_EACH)
        self.assertIsNot(told, calls)

    def test_the_same_twice(self):
        calls = list(ONE_OF_EACH)
        once = answers(calls)
        self.assertEqual(answers(calls), once)

    def test_nothing_is_kept_between(self):
        answers(joined(line([5] * 9, posts=[0, 4])))
        self.assertEqual(answers(joined([start(), far(0, 1), clear(), fewest(0)])), [1, 0, 1, -2, 1, -17, 2, 1, 1])

    def test_what_is_given_back_is_not_kept(self):
        told = answers(ONE_OF_EACH)
        kept = list(told)
        told.append(7)
        self.assertEqual(answers(ONE_OF_EACH), kept)

    def test_kinds(self):
        told = answers(ONE_OF_EACH)
        self.assertIs(type(told), list)
        for number in told:
            self.assertIs(type(number), int)

    def test_numbers_like_those_of_calls_are_read_as_given(self):
        # Each number behind a call's own is also the number of some call.
        self.assertEqual(answers([0, 1, 0, 12, 2, 1, 3, 7, 1, 0, 9, 0, 1, 3, 8, 0, 3]),
                         [1, 0, 1, 1, 1, 12, 1, 3, 1, 0, 2, 2, bits(0, 1)])

    def test_a_thousand_calls(self):
        calls = line([1000] * 9) + [least(4), fewest(BIGGEST), lonely(0)] * 330
        told = answers(joined(calls))
        behind = [2, 1000, bits(1, 4, 7, 9), 2, 1, bits(9), 2, 10, 1023]
        self.assertEqual(told[20:], behind * 330)
        self.assertEqual(len(calls), 1000)
