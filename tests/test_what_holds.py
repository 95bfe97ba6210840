"""What holds in all valleys, and the document's words by brute force beside the program."""

import random
import unittest
from itertools import combinations

from tests import model
from tests.lines import BIGGEST, ask, fewest, least, lonely, put, share, start, valley, village


def members(villages):
    return [v for v in range(10) if villages >> v & 1]


def some_valleys():
    """Of different forms, and behind them some by chance, the same each time."""
    chance = random.Random(5)
    forms = {
        "village 0 alone": [],
        "line": list(enumerate([1] * 9)),
        "uneven line": list(enumerate([4, 1, 7, 2, 9, 1, 1, 30])),
        "star": [(0, 5)] * 9,
        "uneven star": [(0, length) for length in (1, 2, 4, 8, 16, 32, 64)],
        "two stars": [(0, 3), (0, 3), (0, 3), (0, 10), (4, 3), (4, 3), (4, 3)],
        "broom": [(0, 2), (1, 2), (2, 2), (3, 5), (3, 5), (3, 6)],
        "halves": [((v - 1) // 2, 3) for v in range(1, 10)],
        "comb": [(0, 4), (0, 1), (1, 4), (1, 1), (3, 4), (3, 1), (5, 4), (5, 1)],
        "longest": list(enumerate([1000] * 9)),
    }
    for number in range(25):
        count = chance.randint(1, 10)
        forms[f"by chance {number}"] = [(chance.randrange(v), chance.randint(1, 8)) for v in range(1, count)]
    return forms


VALLEYS = some_valleys()


def reaches_of(table):
    """Each how-far, one less, and one more."""
    fars = {far for row in table for far in row}
    return sorted({r for far in fars for r in (far - 1, far, far + 1) if r >= 0})[:40] + [BIGGEST]


class WhatHolds(unittest.TestCase):
    def each(self, holds):
        for name, roads in VALLEYS.items():
            with self.subTest(name):
                holds(roads, model.how_far(roads))

    def test_as_few_posts_as_lonely_villages(self):
        def holds(roads, table):
            for r in reaches_of(table):
                posts, alone = ask(valley(roads) + [fewest(r), lonely(r)])[-2:]
                self.assertEqual(posts[0], alone[0])
                self.assertEqual([posts[0], alone[0]], [len(members(posts[1])), len(members(alone[1]))])
                self.assertTrue(model.serve_all(table, members(posts[1]), r))
                for v, w in combinations(members(alone[1]), 2):
                    self.assertFalse(model.could_share(table, v, w, r))
        self.each(holds)

    def test_lonely_are_those_that_vp_share_refuses(self):
        def holds(roads, table):
            for r in reaches_of(table)[::5]:
                alone = members(ask(valley(roads) + [lonely(r)])[-1][1])
                asked = [share(v, w, r) for v, w in combinations(alone, 2)]
                told = ask(valley(roads) + asked)
                self.assertEqual(told[len(roads) + 1:], [[-33]] * len(asked))
        self.each(holds)

    def test_the_least_reach(self):
        def holds(roads, table):
            for k in range(1, len(table) + 2):
                r, posts = ask(valley(roads) + [least(k)])[-1]
                self.assertLessEqual(len(members(posts)), k)
                self.assertTrue(model.serve_all(table, members(posts), r))
                for some in combinations(range(len(table)), min(k, len(table))):
                    self.assertFalse(model.serve_all(table, some, r - 1))
                self.assertEqual(ask(valley(roads) + [fewest(r)])[-1], [len(members(posts)), posts])
        self.each(holds)

    def test_the_fewest_more(self):
        chance = random.Random(6)

        def holds(roads, table):
            for r in reaches_of(table)[:-1:3]:
                posts = [v for v in range(len(table)) if chance.random() < 0.3]
                told = ask(valley(roads, posts=posts) + [put(r)])[-1]
                if model.serve_all(table, posts, r):
                    self.assertEqual(told, [-17])
                    continue
                more = members(told[1])
                self.assertEqual(told[0], len(more))
                self.assertFalse(set(more) & set(posts))
                self.assertTrue(model.serve_all(table, more + posts, r))
                free = [v for v in range(len(table)) if v not in posts]
                for some in combinations(free, len(more) - 1):
                    self.assertFalse(model.serve_all(table, list(some) + posts, r))
        self.each(holds)

    def test_farther_reach_no_more_posts(self):
        def holds(roads, table):
            asked = [fewest(r) for r in reaches_of(table)]
            counts = [told[0] for told in ask(valley(roads) + asked)[-len(asked):]]
            self.assertEqual(counts, sorted(counts, reverse=True))
            self.assertEqual([counts[0], counts[-1]], [len(table), 1])
        self.each(holds)

    def test_a_village_more_no_fewer_posts(self):
        def holds(roads, table):
            for r in reaches_of(table)[::4]:
                for up in range(len(table)):
                    told = ask(valley(roads) + [fewest(r), village(up, 3), fewest(r)])
                    self.assertLessEqual(told[-3][0], told[-1][0])
        self.each(holds)


class BesideTheModel(unittest.TestCase):
    def test_fewest_lonely_and_least_on_all_forms(self):
        for name, roads in VALLEYS.items():
            with self.subTest(name):
                table = model.how_far(roads)
                for r in reaches_of(table)[::2]:
                    told = ask(valley(roads) + [fewest(r), lonely(r)])
                    self.assertEqual(told[-2:], [model.fewest_more(table, (), r), model.lonely(table, r)])
                for k in range(1, len(table) + 1):
                    self.assertEqual(ask(valley(roads) + [least(k)])[-1], model.least(table, k))

    def test_calls_by_chance(self):
        for seed in range(60):
            with self.subTest(seed):
                calls = calls_by_chance(random.Random(seed), 150)
                expected = model.Model()
                self.assertEqual(ask(calls), [expected.answer(call) for call in calls])


def calls_by_chance(chance, count):
    """Mostly such as aren't refused; some with numbers at and beyond the edges."""
    villages = [0, 1, 2, 3, 4, 5, 6, 7, 8, 9, 10, BIGGEST]
    reach = [0, 1, 2, 3, 4, 5, 6, 8, 10, 12, 15, 20, 1000000, 1000001, BIGGEST]
    lengths = [1, 2, 3, 4, 5, 6, 0, 1000, 1001, BIGGEST]
    takes = {1: (villages, lengths), 2: (villages, lengths), 3: (), 4: (villages, [0, 1, 1, 1, 2]), 5: (reach,),
             6: (), 7: (villages, villages), 8: (villages, reach), 9: (villages, villages, reach),
             10: (reach,), 11: (reach,), 12: ([0, 1, 2, 3, 4, 5, 9, 10, 11, BIGGEST],)}
    weights = {1: 10, 3: 2, 4: 6, 6: 1}
    numbers = sorted(takes)
    calls = [start()]
    while len(calls) < count:
        number = chance.choices(numbers, [weights.get(number, 3) for number in numbers])[0]
        # The lesser of two choices: so that villages that are there come up more often.
        given = [kind[min(chance.randrange(len(kind)), chance.randrange(len(kind)))] for kind in takes[number]]
        calls.append([number] + given)
        if chance.random() < 0.01:
            calls.append(start())
    return calls
