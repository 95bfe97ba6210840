"""Points 1 and 7: what is taken back, and done again."""

from tests.lines import BIGGEST, LOOKS, SEEN, add, again, ask, back, ball, bits, clear, drop, far, fewest, idle, least
from tests.lines import line, look, lonely, near, one, post, posts, put, questions, road, serves, share, star, start
from tests.lines import state, valley, village, widest, within, worst
from tests.refusals import RefusalCase

ROADS = [(0, 3), (1, 4), (0, 10), (3, 1)]
ARMS = valley(ROADS)
QUESTIONS = questions([0, 1, 4, 11, BIGGEST])

# Each kind of change of points 2 and 3, behind valleys in which it isn't refused.
CHANGES = {
    "the first village": ([start()], village(0, 7)),
    "a village": (ARMS, village(2, 7)),
    "the tenth village": (line([2] * 8, posts=[3]), village(0, 1000)),
    "a road": (valley(ROADS, posts=[1]), road(3, 2)),
    "a road, so long already": (ARMS, road(2, 4)),
    "a drop": (valley(ROADS, posts=[0, 3]), drop()),
    "a drop of ten": (star([5] * 9), drop()),
    "a drop down to village 0": (line([5], posts=[0]), drop()),
    "a post": (ARMS, post(4, 1)),
    "a post of village 0 alone": ([start()], post(0, 1)),
    "a post taken away": (valley(ROADS, posts=[0, 4]), post(4, 0)),
    "the last post taken away": (valley(ROADS, posts=[4]), post(4, 0)),
    "a put": (ARMS, put(4)),
    "a put beside others": (valley(ROADS, posts=[0]), put(3)),
    "a put of all ten": (line([1] * 9), put(0)),
    "a clear": (valley(ROADS, posts=[0, 2, 4]), clear()),
    "a clear of ten": (line([1] * 9, posts=range(10)), clear()),
}


def behind(before, asked):
    """What these answer behind those calls."""
    return ask(before + asked)[len(before):]


def roads_in_turn(count):
    """So many changes: village 1, then its road 2, 3, .. long."""
    return [start(), village(0, 1)] + [road(1, n) for n in range(2, count + 1)]


class EachKindOfChange(RefusalCase):
    def each(self, holds):
        for name, (before, change) in CHANGES.items():
            with self.subTest(name):
                holds(before, change)

    def test_counts(self):
        def holds(before, change):
            count = len(before) - 1
            villages = ask(before + [state()])[-1][0]
            answer, (later, taken_back, done_again) = ask(before + [change, state()])[-2:]
            self.assertGreaterEqual(answer[0], 0)
            self.assertEqual((taken_back, done_again), (count + 1, 0))
            self.told([state(), change, back(), state(), again(), state()],
                      [[villages, count, 0], answer, [count], [villages, count, 1], [0], [later, count + 1, 0]],
                      before=before)
        self.each(holds)

    def test_taken_back(self):
        def holds(before, change):
            self.assertEqual(behind(before + [change, back()], QUESTIONS), behind(before, QUESTIONS))
        self.each(holds)

    def test_done_again(self):
        def holds(before, change):
            self.assertEqual(behind(before + [change, back(), again()], QUESTIONS),
                             behind(before + [change], QUESTIONS))
        self.each(holds)

    def test_done_again_is_as_if_never_taken_back(self):
        def holds(before, change):
            self.assertEqual(behind(before + [change] + [back(), again()] * 3, SEEN),
                             behind(before + [change], SEEN))
        self.each(holds)

    def test_taken_back_and_made_once_more(self):
        def holds(before, change):
            self.assertEqual(behind(before + [change, back()], [change] + SEEN), behind(before, [change] + SEEN))
        self.each(holds)


class BackAndAgain(RefusalCase):
    def test_the_last_one_first(self):
        before = line([5, 6]) + [post(2, 1), road(1, 7), clear()]
        self.told([back(), posts(), back(), look(1), back(), posts(), back(), state()],
                  [[4], [1, bits(2)], [3], [0, 0, 5], [2], [0, 0], [1], [2, 1, 4]], before=before)

    def test_the_one_taken_back_last_first(self):
        before = line([5, 6]) + [post(2, 1), road(1, 7), clear()] + [back()] * 5
        self.told([state(), again(), look(1), again(), look(2), again(), posts(), again(), look(1), again(), posts()],
                  [[1, 0, 5], [4], [0, 0, 5], [3], [0, 1, 6], [2], [1, bits(2)], [1], [0, 0, 7], [0], [0, 0]],
                  before=before)

    def test_no_change_to_take_back(self):
        self.refused([start()], back(), -2)
        self.refused(line([5]) + [back()], back(), -2)
        self.refused([start(), village(1, 5)], back(), -2)

    def test_none_to_be_done_again(self):
        self.refused([start()], again(), -2)
        self.refused(line([5]), again(), -2)
        self.refused(line([5]) + [back(), again()], again(), -2)

    def test_another_change_ends_it(self):
        before = line([5], posts=[0]) + [post(0, 0), back()]
        self.told([state()], [[2, 2, 1]], before=before)
        for change in (village(0, 9), road(1, 9), road(1, 5), drop(), post(1, 1), post(0, 0), put(0), clear()):
            with self.subTest(change):
                answer, changed, refused, still = ask(before + [change, state(), again(), state()])[-4:]
                self.assertGreaterEqual(answer[0], 0)
                self.assertEqual(changed[1:], [3, 0])
                self.assertEqual((refused, still), ([-2], changed))

    def test_another_change_like_the_one_taken_back_ends_it_too(self):
        self.told([back(), back(), post(0, 1), state(), again()], [[2], [1], [1], [2, 2, 0], [-2]],
                  before=line([5], posts=[0, 1]))

    def test_ten_villages_taken_back_one_by_one(self):
        told = ask(line([5] * 9) + [back()] * 10 + [state()] + [again()] * 10 + [state(), widest()])
        self.assertEqual(told[10:], [[n] for n in range(8, -1, -1)] + [[-2], [1, 0, 9]]
                         + [[n] for n in range(8, -1, -1)] + [[-2], [10, 9, 0], [45, 0, 9]])

    def test_what_was_dropped_comes_back_with_its_road(self):
        self.told([drop(), drop(), look(1), back(), look(1), look(2), back(), look(1), look(2), far(0, 2)],
                  [[2], [1], [-2], [3], [0, 0, 5], [-2], [2], [0, 0, 5], [0, 1, 6], [11]], before=line([5, 6]))


class TheLast20(RefusalCase):
    def test_as_many_as_can_be(self):
        for count in (1, 2, 19, 20, 21, 22, 40, 60):
            with self.subTest(count):
                held = min(count, 20)
                told = behind(roads_in_turn(count), [state()] + [back()] * 21 + [state()] + [again()] * 21 + [state()])
                counts = [[n] for n in range(held - 1, -1, -1)] + [[-2]] * (21 - held)
                villages = 1 if count <= 20 else 2
                self.assertEqual(told, [[2, held, 0]] + counts + [[villages, 0, held]] + counts + [[2, held, 0]])

    def test_each_leads_to_what_was(self):
        for count in (19, 20, 21, 22, 40):
            with self.subTest(count):
                held = min(count, 20)
                told = behind(roads_in_turn(count), [back(), look(1)] * 20 + [again(), look(1)] * 20)
                lengths = [[0, 0, n] if n else [-2] for n in range(count + 1)]
                backward = list(reversed(lengths[count - held:count]))
                forward = lengths[count - held + 1:]
                self.assertEqual(told[1:40:2], backward + [backward[-1]] * (20 - held))
                self.assertEqual(told[41::2], forward + [forward[-1]] * (20 - held))

    def test_seen_is_the_same_behind_all_taken_back_and_done_again(self):
        for count in (19, 20, 21):
            calls = roads_in_turn(count)
            self.assertEqual(behind(calls + [back()] * 20 + [again()] * 20, SEEN), behind(calls, SEEN))

    def test_some_done_again_then_another_change(self):
        for count in (20, 25):
            for some in (0, 1, 7, 19):
                with self.subTest([count, some]):
                    calls = roads_in_turn(count) + [back()] * 20 + [again()] * some
                    villages = 1 if count == 20 and some == 0 else 2
                    self.told([state(), village(0, 9), state(), again(), state()],
                              [[villages, some, 20 - some], [villages], [villages + 1, some + 1, 0], [-2],
                               [villages + 1, some + 1, 0]], before=calls)

    def test_those_let_go_do_not_come_back(self):
        # 25 changes, 5 taken back: 15 can still be, though there were 20.
        calls = roads_in_turn(25) + [back()] * 5
        self.told([state(), post(0, 1), state()] + [back()] * 17 + [look(1)],
                  [[2, 15, 5], [1], [2, 16, 0]] + [[n] for n in range(15, -1, -1)] + [[-2], [0, 0, 5]], before=calls)

    def test_full_again_behind_another_change(self):
        calls = roads_in_turn(20) + [back()] * 3 + [post(0, 1), post(1, 1)]
        self.told([state(), clear(), state(), post(0, 1), state()],
                  [[2, 19, 0], [2], [2, 20, 0], [1], [2, 20, 0]], before=calls)

    def test_done_again_holds_no_more_than_20(self):
        self.told([back(), again(), state(), back(), back(), again(), again(), state()],
                  [[19], [0], [2, 20, 0], [19], [18], [1], [0], [2, 20, 0]], before=roads_in_turn(30))


# Village 0 to 4 with posts in 0 and 4, changes to take back, and three to be done again.
HALFWAY = valley(ROADS, posts=[0, 4]) + [road(1, 9), post(2, 1), clear(), back(), back(), back()]


class NoChange(RefusalCase):
    def test_refused_calls(self):
        self.told([state()], [[5, 6, 3]], before=HALFWAY)
        for call, number in ((village(5, 5), -2), (village(0, 0), -22), (road(5, 5), -2), (road(1, 1001), -22),
                             (road(0, 5), -33), (drop(), -16), (post(5, 1), -2), (post(1, 2), -22), (post(0, 1), -17),
                             (post(1, 0), -17), (put(1000001), -22), (put(10), -17), (far(0, 5), -2),
                             (ball(5, 0), -2), (share(5, 0, 1), -2), (share(1, 4, 0), -33), (least(0), -22),
                             (near(5), -2), (idle(0), -33), (one(32, 5), -22), (one(3, 0), -33), (serves(5, 1), -2),
                             (look(5), -2)):
            with self.subTest(call):
                self.refused(HALFWAY, call, number)

    def test_refused_calls_without_posts_and_of_ten_villages(self):
        before = line([5] * 9) + [post(1, 1), back()]
        for call, number in ((village(0, 5), -28), (clear(), -17), (near(0), -6), (worst(), -6), (idle(9), -33)):
            self.refused(before, call, number)

    def test_refused_calls_of_village_0_alone(self):
        before = line([5]) + [back()]
        for call, number in ((drop(), -33), (back(), -2), (road(1, 5), -2), (clear(), -17)):
            self.refused(before, call, number)

    def test_refused_again(self):
        self.refused(valley(ROADS, posts=[0, 4]), again(), -2)

    def test_questions(self):
        expected = behind(HALFWAY, SEEN)
        for place in range(0, len(QUESTIONS), 300):
            calls = HALFWAY + QUESTIONS[place:place + 300]
            self.assertEqual(behind(calls, SEEN), expected)

    def test_each_kind_of_question(self):
        for call in (far(0, 1), ball(0, 5), share(0, 1, 9), fewest(4), lonely(4), least(2), add(1), within(4), near(1),
                     worst(), idle(11), one(3, 9), widest(), serves(0, 9), look(1), posts(), state()):
            self.assertGreaterEqual(ask(HALFWAY + [call])[-1][0], 0)
            self.changes_nothing(HALFWAY, call)


class State(RefusalCase):
    def test_villages_and_changes(self):
        self.told([start(), state(), village(0, 5), state(), post(1, 1), state(), back(), state(), again(), state()],
                  [[0], [1, 0, 0], [1], [2, 1, 0], [1], [2, 2, 0], [1], [2, 1, 1], [0], [2, 2, 0]])

    def test_ten_villages(self):
        self.told([state()], [[10, 9, 0]], before=line([5] * 9))

    def test_put_is_one_change(self):
        self.told([put(0), state(), back(), posts()], [[10, 1023], [10, 10, 0], [9], [0, 0]], before=line([5] * 9))


class Start(RefusalCase):
    def test_no_changes(self):
        self.told([start(), state(), back(), again()], [[0], [1, 0, 0], [-2], [-2]])

    def test_no_changes_any_more(self):
        for before in (HALFWAY, roads_in_turn(30), roads_in_turn(30) + [back()] * 20):
            self.told([start(), state(), back(), again(), state(), village(0, 5), state()],
                      [[0], [1, 0, 0], [-2], [-2], [1, 0, 0], [1], [2, 1, 0]], before=before)
            self.assertEqual(behind(before + [start()], SEEN), behind([start()], SEEN))


class WhatIsSeen(RefusalCase):
    def test_tells_histories_apart(self):
        # The refusals rest on it: all of these are the same valley, with other changes behind or ahead of it.
        base = line([5])
        calls = (base, base + [road(1, 5)], base + [road(1, 6), back()], base + [road(1, 7), back()],
                 base + [post(1, 1), back()], base + [road(1, 6), road(1, 5)], base + [road(1, 7), road(1, 5)],
                 [start(), village(0, 6), road(1, 5)], base + [post(1, 1), post(1, 0)])
        told = [behind(before, SEEN) for before in calls]
        for place, seen in enumerate(told):
            self.assertNotIn(seen, told[:place])
            # All but vp_state's numbers, which stand first.
            self.assertEqual(seen[1:len(LOOKS)], told[0][1:len(LOOKS)])
