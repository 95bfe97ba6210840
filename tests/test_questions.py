"""Point 4: the questions, which change nothing."""

from tests.lines import BIGGEST, ball, bits, far, fewest, last, least, line, lonely, one, post, road, share, star
from tests.lines import start, valley
from tests.refusals import RefusalCase

# Two arms at village 0: 0 - 1 - 2 (3 and 4 long), 0 - 3 - 4 (10 and 1 long).
ARMS = valley([(0, 3), (1, 4), (0, 10), (3, 1)])
# Pairs of villages 1 apart, far from one another: 0 1, 2 3, 4 5.
PAIRS = valley([(0, 1), (0, 100), (2, 1), (2, 100), (4, 1)])
# A line of 3 - 1 - 0 - 2 - 4.
BENT = valley([(0, 1), (0, 3), (1, 4), (2, 2)])


class Far(RefusalCase):
    def test_all_roads_on_the_way(self):
        self.told([far(0, 2), far(2, 4), far(4, 2), far(1, 3), far(3, 3)], [[7], [18], [18], [13], [0]], before=ARMS)

    def test_farthest_there_can_be(self):
        self.assertEqual(last(line([1000] * 9) + [far(9, 0)]), [9000])

    def test_follows_a_changed_road(self):
        self.told([road(3, 1), far(2, 4), far(0, 2)], [[10], [9], [7]], before=ARMS)

    def test_village_that_is_not_there(self):
        for v in (5, BIGGEST):
            for call in (far(v, 0), far(0, v), far(v, v)):
                self.refused(ARMS, call, -2)


class Ball(RefusalCase):
    def test_villages_within_r(self):
        self.told([ball(0, 6), ball(0, 7), ball(0, 9), ball(0, 10), ball(4, 14), ball(2, 4)],
                  [[2, bits(0, 1)], [3, bits(0, 1, 2)], [3, bits(0, 1, 2)], [4, bits(0, 1, 2, 3)],
                   [4, bits(0, 1, 3, 4)], [2, bits(1, 2)]], before=ARMS)

    def test_r_at_its_edges(self):
        self.told([ball(3, 0), ball(3, BIGGEST)], [[1, bits(3)], [5, bits(0, 1, 2, 3, 4)]], before=ARMS)
        self.told([ball(0, 0), ball(0, BIGGEST)], [[1, 1], [1, 1]], before=[start()])

    def test_village_that_is_not_there(self):
        for v in (5, BIGGEST):
            for r in (0, 5, BIGGEST):
                self.refused(ARMS, ball(v, r), -2)


class Share(RefusalCase):
    def test_least_village_within_r_of_both(self):
        self.told([share(2, 4, 11), share(2, 4, 14), share(4, 2, 15), share(1, 2, 4), share(3, 4, 1)],
                  [[0], [0], [0], [1], [3]], before=ARMS)

    def test_least_is_not_village_0(self):
        self.told([share(1, 3, 5), share(2, 3, 5), share(3, 1, 10)], [[2], [2], [1]], before=line([50, 5, 5]))

    def test_may_be_one_of_them(self):
        self.told([share(0, 1, 5), share(1, 2, 6)], [[0], [1]], before=line([5, 6]))

    def test_of_a_village_and_itself(self):
        self.told([share(2, 2, 0), share(2, 2, 4), share(2, 2, 7)], [[2], [1], [0]], before=ARMS)

    def test_could_not_share(self):
        # The way between is 10 long, but the village in its middle isn't halfway.
        uneven = line([4, 6])
        for r in (0, 5):
            self.refused(uneven, share(0, 2, r), -33)
        self.told([share(0, 2, 6)], [[1]], before=uneven)
        self.refused(ARMS, share(2, 4, 10), -33)

    def test_r_at_its_edges(self):
        self.refused(ARMS, share(0, 1, 0), -33)
        self.told([share(3, 3, 0), share(3, 4, BIGGEST), share(4, 4, BIGGEST)], [[3], [0], [0]], before=ARMS)

    def test_which_refusal_is_told(self):
        for v in (5, BIGGEST):
            for r in (0, BIGGEST):
                for call in (share(v, 0, r), share(0, v, r), share(v, v, r)):
                    self.refused(ARMS, call, -2)


class Fewest(RefusalCase):
    def test_one_in_the_middle(self):
        self.told([fewest(5)], [[1, bits(0)]], before=star([5, 5, 5]))
        self.told([fewest(10)], [[1, bits(2)]], before=line([5, 5, 5, 5]))

    def test_several(self):
        self.told([fewest(5)], [[2, bits(1, 4)]], before=line([5] * 5))
        self.told([fewest(5)], [[3, bits(1, 4, 7)]], before=line([5] * 8))

    def test_of_sets_alike_the_first(self):
        self.told([fewest(5)], [[1, bits(1)]], before=line([5]))
        self.told([fewest(10)], [[1, bits(3)]], before=star([5, 5, 5]))
        self.told([fewest(1)], [[3, bits(1, 3, 5)]], before=PAIRS)
        self.told([fewest(5)], [[2, bits(1, 3)]], before=line([5, 5, 5]))

    def test_first_is_not_the_greatest_number(self):
        # {1, 2}, {1, 4} and {2, 3} serve all; that of {1, 4} is the greatest number.
        self.told([fewest(4)], [[2, bits(2, 3)]], before=BENT)

    def test_posts_there_are_do_not_count(self):
        self.told([post(0, 1), fewest(5), post(3, 1), fewest(5)], [[1], [2, bits(1, 3)], [2], [2, bits(1, 3)]],
                  before=line([5, 5, 5]))

    def test_r_at_its_edges(self):
        self.told([fewest(0), fewest(BIGGEST)], [[5, bits(0, 1, 2, 3, 4)], [1, bits(4)]], before=ARMS)
        self.told([fewest(0), fewest(BIGGEST)], [[1, 1], [1, 1]], before=[start()])

    def test_changes_nothing(self):
        self.changes_nothing(ARMS + [post(2, 1)], fewest(4))


class Lonely(RefusalCase):
    def test_no_two_could_share(self):
        self.told([lonely(5)], [[2, bits(2, 5)]], before=line([5] * 5))
        self.told([lonely(5)], [[3, bits(1, 4, 7)]], before=line([5] * 7))

    def test_of_sets_alike_the_first(self):
        self.told([lonely(5)], [[1, bits(3)]], before=star([5, 5, 5]))
        self.told([lonely(1)], [[3, bits(1, 3, 5)]], before=PAIRS)
        self.told([lonely(5)], [[2, bits(1, 4)]], before=line([5] * 4))

    def test_first_is_not_the_greatest_number(self):
        # {0, 3}, {0, 4}, {0, 5} and {1, 4} are lonely; that of {0, 5} is the greatest number.
        self.told([lonely(4)], [[2, bits(1, 4)]], before=valley([(0, 3), (1, 2), (2, 3), (3, 2), (3, 1)]))

    def test_posts_there_are_do_not_count(self):
        self.told([post(0, 1), lonely(5)], [[1], [2, bits(2, 5)]], before=line([5] * 5))

    def test_r_at_its_edges(self):
        self.told([lonely(0), lonely(BIGGEST)], [[5, bits(0, 1, 2, 3, 4)], [1, bits(4)]], before=ARMS)
        self.told([lonely(0), lonely(BIGGEST)], [[1, 1], [1, 1]], before=[start()])

    def test_changes_nothing(self):
        self.changes_nothing(ARMS + [post(2, 1)], lonely(4))


class Least(RefusalCase):
    def test_least_reach_and_its_fewest_posts(self):
        self.told([least(1), least(2), least(3), least(4), least(5)],
                  [[11, bits(0)], [4, bits(1, 4)], [3, bits(1, 2, 4)], [1, bits(0, 1, 2, 4)],
                   [0, bits(0, 1, 2, 3, 4)]], before=ARMS)

    def test_fewer_than_k_serve_by_that_reach(self):
        self.told([least(2), fewest(5)], [[5, bits(0)], [1, bits(0)]], before=star([5, 5, 5]))

    def test_of_sets_alike_the_first(self):
        self.told([least(1)], [[5, bits(1)]], before=line([5]))
        self.told([least(3)], [[1, bits(1, 3, 5)]], before=PAIRS)
        self.told([least(2)], [[4, bits(2, 3)]], before=BENT)

    def test_k_at_its_edges(self):
        self.refused(ARMS, least(0), -22)
        self.refused([start()], least(0), -22)
        self.told([least(1), least(2), least(BIGGEST)], [[0, 1], [0, 1], [0, 1]], before=[start()])
        self.told([least(6), least(BIGGEST)], [[0, bits(0, 1, 2, 3, 4)]] * 2, before=ARMS)

    def test_longest_line(self):
        self.told([least(1), least(9), least(10)], [[5000, bits(5)], [1000, bits(1, 4, 7, 9)], [0, 1023]],
                  before=line([1000] * 9))

    def test_changes_nothing(self):
        self.changes_nothing(ARMS + [post(2, 1)], least(2))


class One(RefusalCase):
    def test_least_village_within_r_of_all(self):
        self.told([one(bits(2, 4), 11), one(bits(0, 1, 2), 4), one(bits(3, 4), 1), one(bits(0, 2, 3), 10)],
                  [[0], [1], [3], [0]], before=ARMS)

    def test_of_like_ones_the_least(self):
        # Of 1, 2 and 3 each is within 10 of all; 0 isn't.
        self.told([one(bits(1, 2, 3), 10), one(bits(1, 3), 5)], [[1], [2]], before=line([50, 5, 5]))

    def test_need_not_be_one_of_them(self):
        self.told([one(bits(1, 2, 3), 5)], [[0]], before=star([5, 5, 5]))
        self.told([one(bits(0, 2), 5)], [[1]], before=line([5, 5]))

    def test_of_one_village(self):
        self.told([one(bits(4), 0), one(bits(4), 1), one(bits(4), 11)], [[4], [3], [0]], before=ARMS)

    def test_no_bits(self):
        for before in ([start()], ARMS, line([1] * 9)):
            self.told([one(0, 0), one(0, 3), one(0, BIGGEST)], [[0], [0], [0]], before=before)

    def test_all_villages(self):
        self.told([one(31, 11), one(31, 14), one(31, BIGGEST)], [[0], [0], [0]], before=ARMS)
        self.refused(ARMS, one(31, 10), -33)
        self.refused(ARMS, one(31, 0), -33)
        self.told([one(1023, 5), one(1023, 6), one(1023, 9)], [[4], [3], [0]], before=line([1] * 9))
        self.refused(line([1] * 9), one(1023, 4), -33)

    def test_village_0_alone(self):
        self.told([one(1, 0), one(1, BIGGEST)], [[0], [0]], before=[start()])
        self.refused([start()], one(2, 0), -22)
        self.refused([start()], one(3, BIGGEST), -22)

    def test_none_within_r_of_all(self):
        self.refused(ARMS, one(bits(2, 4), 10), -33)
        self.refused(ARMS, one(bits(0, 1), 0), -33)
        self.refused(line([4, 6]), one(bits(0, 2), 5), -33)

    def test_bits_of_others(self):
        for w in (bits(5), bits(0, 5), bits(9), bits(31), 63, 1023, BIGGEST):
            for r in (0, 5, BIGGEST):
                self.refused(ARMS, one(w, r), -22)
        for w in (1024, 1025, 2047, BIGGEST):
            self.refused(line([1] * 9), one(w, 9), -22)

    def test_which_refusal_is_told(self):
        self.refused(ARMS, one(bits(2, 4, 5), 0), -22)
        self.refused(line([1] * 9), one(2047, 0), -22)

    def test_posts_are_not_asked_for(self):
        self.told([post(2, 1), one(bits(3, 4), 1)], [[1], [3]], before=ARMS)
        self.changes_nothing(ARMS + [post(2, 1)], one(bits(3, 4), 1))
