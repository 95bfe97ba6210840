"""What holds in all valleys, and the document's words by brute force beside the program."""

import random
import unittest
from itertools import combinations

from tests import model
from tests.lines import BIGGEST, LOOKS, SETS, VILLAGES, add, again, ask, back, fewest, idle, least, lonely, members
from tests.lines import one, post, put, share, state, valley, village, within


def some_valleys():
    """Of different forms, and behind them some by chance, the same each time."""
    chance = random.Random(5)
    forms = {
        "village 0 alone": [],
        "line": list(enumerate([1] * 9)),
        "uneven line": list(enumerate([4, 1, 7, 2, 9, 1, 1, 30])),
        "star": [(0, 5)] * 9,
        "uneven star": [(0, length) for length in (1, 2, 4, 8, 16, 32, 64)],
        "two stars": [(0, 3), (0, 3), (0, 3), (0, 10), (4, 3), (4, 3), (4, 3)],
        "broom": [(0, 2), (1, 2), (2, 2), (3, 5), (3, 5), (3, 6)],
        "halves": [((v - 1) // 2, 3) for v in range(1, 10)],
        "comb": [(0, 4), (0, 1), (1, 4), (1, 1), (3, 4), (3, 1), (5, 4), (5, 1)],
        "longest": list(enumerate([1000] * 9)),
    }
    for number in range(25):
        count = chance.randint(1, 10)
        forms[f"by chance {number}"] = [(chance.randrange(v), chance.randint(1, 8)) for v in range(1, count)]
    return forms


VALLEYS = some_valleys()


def reaches_of(table):
    """Each how-far, one less, and one more."""
    fars = {far for row in table for far in row}
    return sorted({r for far in fars for r in (far - 1, far, far + 1) if r >= 0})[:40] + [BIGGEST]


class WhatHolds(unittest.TestCase):
    def each(self, holds):
        for name, roads in VALLEYS.items():
            with self.subTest(name):
                holds(roads, model.how_far(roads))

    def test_as_few_posts_as_lonely_villages(self):
        def holds(roads, table):
            for r in reaches_of(table):
                posts, alone = ask(valley(roads) + [fewest(r), lonely(r)])[-2:]
                self.assertEqual(posts[0], alone[0])
                self.assertEqual([posts[0], alone[0]], [len(members(posts[1])), len(members(alone[1]))])
                self.assertTrue(model.serve_all(table, members(posts[1]), r))
                for v, w in combinations(members(alone[1]), 2):
                    self.assertFalse(model.could_share(table, v, w, r))
        self.each(holds)

    def test_lonely_are_those_that_vp_share_refuses(self):
        def holds(roads, table):
            for r in reaches_of(table)[::5]:
                alone = members(ask(valley(roads) + [lonely(r)])[-1][1])
                asked = [share(v, w, r) for v, w in combinations(alone, 2)]
                told = ask(valley(roads) + asked)
                self.assertEqual(told[len(roads) + 1:], [[-33]] * len(asked))
        self.each(holds)

    def test_the_least_reach(self):
        def holds(roads, table):
            for k in range(1, len(table) + 2):
                r, posts = ask(valley(roads) + [least(k)])[-1]
                self.assertLessEqual(len(members(posts)), k)
                self.assertTrue(model.serve_all(table, members(posts), r))
                for some in combinations(range(len(table)), min(k, len(table))):
                    self.assertFalse(model.serve_all(table, some, r - 1))
                self.assertEqual(ask(valley(roads) + [fewest(r)])[-1], [len(members(posts)), posts])
        self.each(holds)

    def test_the_fewest_more(self):
        chance = random.Random(6)

        def holds(roads, table):
            for r in reaches_of(table)[:-1:3]:
                posts = [v for v in range(len(table)) if chance.random() < 0.3]
                asked, told = ask(valley(roads, posts=posts) + [add(r), put(r)])[-2:]
                if model.serve_all(table, posts, r):
                    self.assertEqual((asked, told), ([0, 0], [-17]))
                    continue
                self.assertEqual(asked, told)
                more = members(told[1])
                self.assertEqual(told[0], len(more))
                self.assertFalse(set(more) & set(posts))
                self.assertTrue(model.serve_all(table, more + posts, r))
                free = [v for v in range(len(table)) if v not in posts]
                for some in combinations(free, len(more) - 1):
                    self.assertFalse(model.serve_all(table, list(some) + posts, r))
        self.each(holds)

    def test_farther_reach_no_more_posts(self):
        def holds(roads, table):
            asked = [fewest(r) for r in reaches_of(table)]
            counts = [told[0] for told in ask(valley(roads) + asked)[-len(asked):]]
            self.assertEqual(counts, sorted(counts, reverse=True))
            self.assertEqual([counts[0], counts[-1]], [len(table), 1])
        self.each(holds)

    def test_farther_reach_no_more_beside_those_there_are(self):
        chance = random.Random(7)

        def holds(roads, table):
            posts = [v for v in range(len(table)) if chance.random() < 0.3]
            asked = [add(r) for r in reaches_of(table)]
            counts = [told[0] for told in ask(valley(roads, posts=posts) + asked)[-len(asked):]]
            self.assertEqual(counts, sorted(counts, reverse=True))
            self.assertEqual([counts[0], counts[-1]], [len(table) - len(posts), 0 if posts else 1])
        self.each(holds)

    def test_a_village_more_no_fewer_posts(self):
        def holds(roads, table):
            for r in reaches_of(table)[::4]:
                for up in range(len(table)):
                    told = ask(valley(roads) + [fewest(r), village(up, 3), fewest(r)])
                    self.assertLessEqual(told[-3][0], told[-1][0])
        self.each(holds)

    def test_one_for_all(self):
        chance = random.Random(8)

        def holds(roads, table):
            count = len(table)
            pairs = list(combinations(range(count), 2))
            sets = [0, (1 << count) - 1] + [chance.randrange(1 << count) for number in range(60)]
            for r in reaches_of(table)[::6]:
                told = ask(valley(roads) + [share(v, w, r) for v, w in pairs] + [one(w, r) for w in sets])[count:]
                sharing = {pair: answer != [-33] for pair, answer in zip(pairs, told)}
                for w, answer in zip(sets, told[len(pairs):]):
                    self.assertEqual(all(sharing[pair] for pair in combinations(members(w), 2)), answer != [-33])
                    if answer != [-33]:
                        self.assertTrue(all(table[v][answer[0]] <= r for v in members(w)))
        self.each(holds)

    def test_idle_just_when_without_it_all_are_served(self):
        chance = random.Random(9)

        def holds(roads, table):
            for r in reaches_of(table)[::4]:
                posts = [v for v in range(len(table)) if chance.random() < 0.7]
                before = valley(roads, posts=posts)
                served, answer = ask(before + [within(r), idle(r)])[-2:]
                if served[0] == 0:
                    self.assertEqual(answer, [-33])
                    continue
                without = ask(before + [call for p in posts for call in (post(p, 0), within(r), post(p, 1))])
                spare = [p for p, told in zip(posts, without[len(before) + 1::3]) if told[0] == 1]
                self.assertEqual(answer, [len(spare), model.number(spare)])
        self.each(holds)

    def test_all_can_be_taken_back_and_done_again(self):
        chance = random.Random(10)

        def holds(roads, table):
            before = valley(roads)
            made = made_changes(chance, before, 20)
            told = ask(before + LOOKS + [call for change in made for call in [change] + LOOKS]
                       + ([back()] + LOOKS) * 20 + ([again()] + LOOKS) * 20)[len(before):]
            size = len(LOOKS) + 1
            # One row for each step: its own answer, then what is seen behind it but for vp_state's numbers.
            rows = [told[place + 1:place + size - 1] for place in range(0, len(told), size)]
            self.assertEqual(rows[21:41], list(reversed(rows[:20])))
            self.assertEqual(rows[41:], rows[1:21])
        self.each(holds)


class BesideTheModel(unittest.TestCase):
    def test_fewest_lonely_and_least_on_all_forms(self):
        for name, roads in VALLEYS.items():
            with self.subTest(name):
                table = model.how_far(roads)
                for r in reaches_of(table)[::2]:
                    told = ask(valley(roads) + [fewest(r), lonely(r)])
                    self.assertEqual(told[-2:], [model.fewest_more(table, (), r), model.lonely(table, r)])
                for k in range(1, len(table) + 1):
                    self.assertEqual(ask(valley(roads) + [least(k)])[-1], model.least(table, k))

    def test_a_thousand_calls_by_chance(self):
        for seed in range(24):
            with self.subTest(seed):
                calls = calls_by_chance(random.Random(seed), 1000)
                expected = model.Model()
                self.assertEqual(ask(calls), [expected.answer(call) for call in calls])
                self.assertEqual({call[0] for call in calls}, set(range(26)))

    def test_what_chance_brings(self):
        # The lists above hold little if hardly any call of some kind is taken, or refused for some cause.
        taken = {number: 0 for number in range(26)}
        refused = set()
        far_back = 0
        for seed in range(24):
            calls = calls_by_chance(random.Random(seed), 1000)
            for call, told in zip(calls, ask(calls)):
                if told[0] < 0:
                    refused.add((call[0], told[0]))
                else:
                    taken[call[0]] += 1
                    far_back += call == state() and told[1] == 20
        self.assertEqual(refused, REFUSALS)
        self.assertGreater(min(taken.values()), 20)
        self.assertGreater(far_back, 20)


# Each call's number, with each refusal that the document names for it.
REFUSALS = {(1, -2), (1, -22), (1, -28), (2, -2), (2, -22), (2, -33), (3, -33), (3, -16), (4, -2), (4, -22), (4, -17),
            (5, -22), (5, -17), (6, -17), (7, -2), (8, -2), (9, -2), (9, -33), (12, -22), (15, -2), (15, -6),
            (16, -6), (17, -33), (18, -22), (18, -33), (20, -2), (21, -2), (23, -2), (24, -2)}


def valley_by_chance(chance):
    """Village 0 alone, or up to 10, else few lists would have many villages."""
    count = chance.choice([1, 1, 4, 7, 10, 10])
    return valley([(chance.randrange(v), chance.randint(1, 6)) for v in range(1, count)])


def calls_by_chance(chance, count):
    """Mostly such as aren't refused; some with numbers at and beyond the edges."""
    reach = [0, 1, 2, 3, 4, 5, 6, 8, 10, 12, 15, 20, 1000000, 1000001, BIGGEST]
    lengths = [1, 2, 3, 4, 5, 6, 0, 1000, 1001, BIGGEST]
    takes = {1: (VILLAGES, lengths), 2: (VILLAGES, lengths), 3: (), 4: (VILLAGES, [0, 1, 1, 1, 2]), 5: (reach,),
             6: (), 7: (VILLAGES, VILLAGES), 8: (VILLAGES, reach), 9: (VILLAGES, VILLAGES, reach),
             10: (reach,), 11: (reach,), 12: ([0, 1, 2, 3, 4, 5, 9, 10, 11, BIGGEST],), 13: (reach,), 14: (reach,),
             15: (VILLAGES,), 16: (), 17: (reach,), 18: (SETS, reach), 19: (), 20: (VILLAGES, reach),
             21: (VILLAGES,), 22: (), 23: (), 24: (), 25: ()}
    weights = {1: 12, 2: 6, 3: 2, 4: 9, 6: 2, 23: 3, 25: 4}
    numbers = sorted(takes)
    odds = [weights.get(number, 3) for number in numbers]
    # Some lists begin anew often, some seldom.
    anew = chance.choice([0.002, 0.01, 0.03])
    calls = valley_by_chance(chance)
    while len(calls) < count:
        if chance.random() < anew:
            calls.extend(valley_by_chance(chance))
            continue
        number = chance.choices(numbers, odds)[0]
        # The lesser of two choices: so that villages that are there come up more often.
        given = [kind[min(chance.randrange(len(kind)), chance.randrange(len(kind)))] for kind in takes[number]]
        # Steps back come in runs, and some of them are done again, else few lead far.
        if number == 23:
            calls.extend([back()] * chance.choice([0] * 8 + [1, 2, 4, 7, 20]))
            calls.extend([again()] * chance.choice([0, 0, 1, 3, 8]))
        calls.append([number] + given)
    return calls[:count]


def made_changes(chance, before, count):
    """So many changes behind these calls that aren't refused, of all kinds, by chance."""
    valley_now = model.Model()
    for call in before:
        valley_now.answer(call)
    made = []
    while len(made) < count:
        v = chance.randrange(10)
        change = chance.choice([village(v, chance.randint(1, 9)), [2, v, chance.randint(1, 9)], [3],
                                post(v, chance.randrange(2)), put(chance.randrange(6)), [6]])
        if valley_now.answer(change)[0] >= 0:
            made.append(change)
    return made
