"""Point 5: the questions of the posts there are."""

from tests.lines import BIGGEST, add, ask, bits, fewest, idle, line, near, post, put, serves, star, start, valley
from tests.lines import within, worst
from tests.refusals import RefusalCase

# Two arms at village 0: 0 - 1 - 2 (3 and 4 long), 0 - 3 - 4 (10 and 1 long).
ROADS = [(0, 3), (1, 4), (0, 10), (3, 1)]
ARMS = valley(ROADS)
ALONE = [start()]
ALONE_WITH_POST = [start(), post(0, 1)]
TEN = line([1] * 9)
TEN_WITH_POSTS = line([1] * 9, posts=range(10))


def arms(*posts):
    return valley(ROADS, posts=posts)


class Add(RefusalCase):
    def test_the_fewest_more(self):
        self.told([add(4), add(7), add(10)], [[2, bits(2, 4)], [1, bits(4)], [1, bits(4)]], before=arms(0))

    def test_those_there_are_serve_all(self):
        self.told([add(11), add(12), add(BIGGEST)], [[0, 0]] * 3, before=arms(0))

    def test_gives_no_posts(self):
        self.told([add(4), add(4), put(4), add(4)], [[2, bits(2, 4)]] * 3 + [[0, 0]], before=arms(0))
        self.changes_nothing(arms(0), add(4))

    def test_those_there_are_stay_where_others_would_be_fewer(self):
        self.told([fewest(5), add(5)], [[1, bits(0)], [1, bits(3)]], before=star([5, 5, 5], posts=[1, 2]))

    def test_of_sets_alike_the_first(self):
        self.told([add(10)], [[1, bits(2)]], before=line([5, 5]))
        self.told([add(5)], [[1, bits(3)]], before=line([5, 5, 5], posts=[0]))
        # {1, 2}, {1, 5} and {2, 3} are alike; that of {1, 5} is the greatest number.
        self.told([add(4)], [[2, bits(2, 3)]], before=valley([(0, 4), (0, 4), (1, 3), (1, 2), (2, 1)], posts=[4]))

    def test_no_posts_as_the_fewest(self):
        for before in (ALONE, ARMS, TEN):
            for r in (0, 1, 4, 11, BIGGEST):
                told = ask(before + [add(r), fewest(r)])
                self.assertEqual(told[-2], told[-1])
        self.told([add(0), add(BIGGEST)], [[1, 1], [1, 1]], before=ALONE)
        self.told([add(0), add(BIGGEST)], [[10, 1023], [1, bits(9)]], before=TEN)

    def test_posts_everywhere(self):
        for before in (ALONE_WITH_POST, arms(0, 1, 2, 3, 4), TEN_WITH_POSTS):
            self.told([add(0), add(5), add(BIGGEST)], [[0, 0]] * 3, before=before)

    def test_r_at_its_edges(self):
        self.told([add(0), add(1000000), add(1000001), add(BIGGEST)], [[4, bits(1, 2, 3, 4)]] + [[0, 0]] * 3,
                  before=arms(0))
        self.told([add(1000001)], [[1, bits(4)]], before=ARMS)


class Within(RefusalCase):
    def test_villages_out_of_reach(self):
        self.told([within(2), within(3), within(7), within(10)],
                  [[0, bits(1, 2, 3, 4)], [0, bits(2, 3, 4)], [0, bits(3, 4)], [0, bits(4)]], before=arms(0))
        self.told([within(3), within(1)], [[0, bits(2)], [0, bits(0, 2)]], before=arms(1, 3))

    def test_none_is_out_of_reach(self):
        self.told([within(11), within(BIGGEST)], [[1, 0], [1, 0]], before=arms(0))
        self.told([within(4)], [[1, 0]], before=arms(1, 3))

    def test_no_posts(self):
        self.told([within(0), within(BIGGEST)], [[0, 31], [0, 31]], before=ARMS)
        self.told([within(0), within(BIGGEST)], [[0, 1], [0, 1]], before=ALONE)
        self.told([within(0), within(BIGGEST)], [[0, 1023], [0, 1023]], before=TEN)

    def test_posts_everywhere(self):
        for before in (ALONE_WITH_POST, arms(0, 1, 2, 3, 4), TEN_WITH_POSTS):
            self.told([within(0), within(BIGGEST)], [[1, 0], [1, 0]], before=before)

    def test_r_0(self):
        self.told([within(0)], [[0, bits(0, 2, 4)]], before=arms(1, 3))

    def test_changes_nothing(self):
        self.changes_nothing(arms(1, 3), within(3))


class Near(RefusalCase):
    def test_post_and_how_far(self):
        self.told([near(0), near(1), near(2), near(3), near(4)], [[1, 3], [1, 0], [1, 4], [3, 0], [3, 1]],
                  before=arms(1, 3))

    def test_of_like_ones_the_least(self):
        self.told([near(1)], [[0, 5]], before=line([5, 5], posts=[0, 2]))
        self.told([near(0), near(1)], [[2, 5], [2, 10]], before=star([5, 5, 5], posts=[3, 2]))

    def test_nearest_is_not_the_least(self):
        self.told([near(3)], [[2, 1]], before=line([5, 5, 1], posts=[0, 1, 2]))

    def test_one_post_is_the_nearest_of_all(self):
        self.told([near(0), near(9)], [[9, 9], [9, 0]], before=line([1] * 9, posts=[9]))
        self.told([near(0)], [[0, 0]], before=ALONE_WITH_POST)

    def test_posts_everywhere(self):
        self.told([near(v) for v in range(10)], [[v, 0] for v in range(10)], before=TEN_WITH_POSTS)

    def test_village_that_is_not_there(self):
        for v in (5, 6, BIGGEST):
            self.refused(arms(1, 3), near(v), -2)
        for v in (10, BIGGEST):
            self.refused(TEN_WITH_POSTS, near(v), -2)
        self.refused(ALONE_WITH_POST, near(1), -2)

    def test_no_posts(self):
        for v in range(5):
            self.refused(ARMS, near(v), -6)
        self.refused(ALONE, near(0), -6)
        self.refused(TEN, near(9), -6)
        self.refused(arms(2) + [post(2, 0)], near(2), -6)

    def test_which_refusal_is_told(self):
        for v in (5, BIGGEST):
            self.refused(ARMS, near(v), -2)
        self.refused(ALONE, near(1), -2)
        self.refused(TEN, near(10), -2)

    def test_changes_nothing(self):
        self.changes_nothing(arms(1, 3), near(2))


class Worst(RefusalCase):
    def test_village_and_how_far(self):
        self.told([worst()], [[4, 14]], before=arms(1))
        self.told([worst()], [[2, 4]], before=arms(1, 3))
        self.told([worst()], [[0, 9]], before=line([1] * 9, posts=[9]))

    def test_of_like_ones_the_least(self):
        self.told([worst()], [[1, 5]], before=star([5, 5, 5], posts=[0]))
        self.told([worst()], [[1, 10]], before=star([5, 5, 5], posts=[2]))
        # 3 is 6 from post 1, 4 is 6 from post 2.
        self.told([worst()], [[3, 6]], before=valley([(0, 2), (0, 2), (1, 6), (2, 6)], posts=[1, 2]))

    def test_farthest_from_its_nearest_not_from_any_post(self):
        self.told([worst()], [[1, 5]], before=line([5, 5, 1], posts=[0, 2, 3]))

    def test_posts_everywhere(self):
        for before in (ALONE_WITH_POST, arms(0, 1, 2, 3, 4), TEN_WITH_POSTS):
            self.told([worst()], [[0, 0]], before=before)

    def test_no_posts(self):
        for before in (ALONE, ARMS, TEN, arms(2) + [post(2, 0)]):
            self.refused(before, worst(), -6)

    def test_changes_nothing(self):
        self.changes_nothing(arms(1, 3), worst())


class Idle(RefusalCase):
    def test_posts_that_could_go(self):
        self.told([idle(5), idle(10)], [[1, bits(0)], [2, bits(0, 1)]], before=line([5, 5], posts=[0, 1]))

    def test_each_by_itself_not_all_at_once(self):
        self.told([idle(10)], [[2, bits(0, 2)]], before=line([5, 5], posts=[0, 2]))
        self.told([idle(5)], [[3, bits(0, 1, 2)]], before=line([5, 5], posts=[0, 1, 2]))

    def test_none_could_go(self):
        self.told([idle(5), idle(9)], [[0, 0], [0, 0]], before=line([5, 5], posts=[0, 2]))
        self.told([idle(4)], [[0, 0]], before=arms(1, 3))

    def test_one_post_could_never_go(self):
        self.told([idle(11), idle(BIGGEST)], [[0, 0], [0, 0]], before=arms(0))
        self.told([idle(0), idle(BIGGEST)], [[0, 0], [0, 0]], before=ALONE_WITH_POST)

    def test_posts_everywhere(self):
        self.told([idle(0), idle(1), idle(BIGGEST)], [[0, 0], [2, bits(3, 4)], [5, 31]], before=arms(0, 1, 2, 3, 4))
        self.told([idle(0), idle(1), idle(BIGGEST)], [[0, 0], [10, 1023], [10, 1023]], before=TEN_WITH_POSTS)

    def test_do_not_serve_all(self):
        self.refused(arms(0), idle(10), -33)
        self.refused(arms(0, 1, 2, 3), idle(0), -33)
        self.refused(TEN, idle(9), -33)

    def test_no_posts(self):
        for before in (ALONE, ARMS, TEN):
            for r in (0, BIGGEST):
                self.refused(before, idle(r), -33)

    def test_changes_nothing(self):
        self.changes_nothing(arms(0, 1, 2, 3, 4), idle(1))


class Serves(RefusalCase):
    def test_villages_whose_nearest_post_it_is(self):
        self.told([serves(1, 4), serves(1, 3), serves(3, 1), serves(3, 0)],
                  [[3, bits(0, 1, 2)], [2, bits(0, 1)], [2, bits(3, 4)], [1, bits(3)]], before=arms(1, 3))

    def test_within_reach_but_nearer_to_another(self):
        self.told([serves(1, BIGGEST), serves(3, 100)], [[3, bits(0, 1, 2)], [2, bits(3, 4)]], before=arms(1, 3))

    def test_of_like_ones_the_least(self):
        self.told([serves(0, 5), serves(2, 5)], [[2, bits(0, 1)], [1, bits(2)]], before=line([5, 5], posts=[0, 2]))
        self.told([serves(2, 10), serves(3, 10)], [[3, bits(0, 1, 2)], [1, bits(3)]],
                  before=star([5, 5, 5], posts=[3, 2]))

    def test_village_that_has_no_post(self):
        for r in (0, 5, BIGGEST):
            self.told([serves(0, r), serves(2, r), serves(4, r)], [[0, 0]] * 3, before=arms(1, 3))

    def test_no_posts(self):
        for r in (0, BIGGEST):
            self.told([serves(0, r)], [[0, 0]], before=ALONE)
            self.told([serves(v, r) for v in range(5)], [[0, 0]] * 5, before=ARMS)
            self.told([serves(9, r)], [[0, 0]], before=TEN)

    def test_posts_everywhere(self):
        for r in (0, BIGGEST):
            self.told([serves(v, r) for v in range(10)], [[1, 1 << v] for v in range(10)], before=TEN_WITH_POSTS)
        self.told([serves(0, 0)], [[1, 1]], before=ALONE_WITH_POST)

    def test_r_at_its_edges(self):
        self.told([serves(0, 0), serves(0, BIGGEST)], [[1, 1], [5, 31]], before=arms(0))

    def test_village_that_is_not_there(self):
        for before in (ARMS, arms(1, 3)):
            for v in (5, BIGGEST):
                for r in (0, BIGGEST):
                    self.refused(before, serves(v, r), -2)
        self.refused(ALONE, serves(1, 0), -2)
        self.refused(TEN_WITH_POSTS, serves(10, 0), -2)

    def test_changes_nothing(self):
        self.changes_nothing(arms(1, 3), serves(1, 3))
