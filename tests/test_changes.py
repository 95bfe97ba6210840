"""Points 1 to 3: vp_start, and the calls that change the valley."""

from tests.lines import BIGGEST, SEEN, ask, ball, bits, clear, drop, far, fewest, last, line, look, near, post, put
from tests.lines import road, serves, share, start, star, valley, village
from tests.refusals import RefusalCase

FULL_STAR = star([1] * 9)


class Start(RefusalCase):
    def test_answers_0(self):
        self.assertEqual(last([start()]), [0])

    def test_village_0_alone_and_no_posts(self):
        self.told([start(), far(0, 0), far(0, 1), drop(), clear()], [[0], [0], [-2], [-33], [-17]])

    def test_again_makes_all_new(self):
        self.told(line([5, 6], posts=[0, 2]) + [start(), far(0, 1), fewest(0), clear(), village(0, 9)],
                  [[0], [1], [2], [1], [2], [0], [-2], [1, 1], [-17], [1]])


class Village(RefusalCase):
    def test_numbers_go_up_from_1(self):
        self.told([start(), village(0, 7), village(1, 8), village(0, 9), far(2, 3)],
                  [[0], [1], [2], [3], [24]])

    def test_has_no_post_at_first(self):
        self.told([start(), post(0, 1), village(0, 7), put(6)], [[0], [1], [1], [1, bits(1)]])

    def test_far_at_its_edges(self):
        self.told([start(), village(0, 1), village(0, 1000), far(0, 1), far(0, 2)], [[0], [1], [2], [1], [1000]])
        for length in (0, 1001, BIGGEST):
            self.refused([start()], village(0, length), -22)

    def test_up_that_is_not_there(self):
        for up in (1, 2, BIGGEST):
            self.refused([start()], village(up, 5), -2)
        self.refused(line([5, 5]), village(3, 5), -2)

    def test_ten_and_one_more(self):
        self.assertEqual(last(FULL_STAR), [9])
        self.refused(FULL_STAR, village(0, 1), -28)
        self.refused(FULL_STAR, village(9, 1000), -28)

    def test_which_refusal_is_told(self):
        self.refused([start()], village(1, 0), -2)
        self.refused(FULL_STAR, village(10, 5), -2)
        self.refused(FULL_STAR, village(10, 1001), -2)
        self.refused(FULL_STAR, village(0, 0), -22)
        self.refused(FULL_STAR, village(0, 1001), -22)

    def test_there_is_room_behind_a_drop(self):
        self.told([drop(), village(3, 4), village(3, 4), far(3, 9)], [[9], [9], [-28], [4]], before=FULL_STAR)


class Road(RefusalCase):
    def test_answers_how_long_it_was(self):
        self.told([road(1, 70), road(1, 8), far(0, 2), road(2, 1), far(1, 2)], [[5], [70], [14], [6], [1]],
                  before=line([5, 6]))

    def test_so_long_already_is_no_refusal(self):
        self.told([road(1, 5), far(0, 1)], [[5], [5]], before=line([5]))

    def test_n_at_its_edges(self):
        self.told([road(1, 1), far(0, 1), road(1, 1000), far(0, 1)], [[5], [1], [1], [1000]], before=line([5]))
        for n in (0, 1001, BIGGEST):
            self.refused(line([5]), road(1, n), -22)

    def test_village_that_is_not_there(self):
        for v in (2, BIGGEST):
            self.refused(line([5]), road(v, 5), -2)

    def test_village_0(self):
        self.refused([start()], road(0, 5), -33)
        self.refused(line([5]), road(0, 5), -33)

    def test_which_refusal_is_told(self):
        self.refused(line([5]), road(2, 0), -2)
        self.refused(line([5]), road(0, 0), -22)
        self.refused(line([5]), road(0, 1001), -22)

    def test_posts_stay(self):
        self.told([road(2, 9), put(0), clear()], [[6], [2, bits(1, 2)], [3]], before=line([5, 6], posts=[0]))


class Drop(RefusalCase):
    def test_answers_how_many_there_are(self):
        self.told([drop(), far(0, 2), far(0, 1), drop(), far(0, 1)], [[2], [-2], [5], [1], [-2]],
                  before=line([5, 6]))

    def test_only_village_0(self):
        self.refused([start()], drop(), -33)
        self.refused(line([5]) + [drop()], drop(), -33)

    def test_last_has_a_post(self):
        self.refused(line([5, 6], posts=[2]), drop(), -16)

    def test_posts_of_others_are_in_no_way(self):
        self.told([drop(), clear()], [[2], [2]], before=line([5, 6], posts=[0, 1]))

    def test_post_taken_away_first(self):
        self.told([post(2, 0), drop()], [[0], [2]], before=line([5, 6], posts=[2]))

    def test_which_refusal_is_told(self):
        self.refused([start(), post(0, 1)], drop(), -33)

    def test_number_is_used_again(self):
        self.told([drop(), village(0, 3), far(1, 2)], [[2], [2], [8]], before=line([5, 6]))


class Post(RefusalCase):
    def test_answers_how_many_there_are(self):
        self.told([post(2, 1), post(0, 1), post(2, 0), post(0, 0)], [[1], [2], [1], [0]], before=line([5, 6]))

    def test_has_it_or_has_none(self):
        self.told([post(1, 1), put(0)], [[1], [2, bits(0, 2)]], before=line([5, 6]))
        self.told([post(1, 0), put(0)], [[1], [2, bits(0, 1)]], before=line([5, 6], posts=[1, 2]))

    def test_so_already(self):
        self.refused(line([5]), post(1, 0), -17)
        self.refused(line([5], posts=[1]), post(1, 1), -17)
        self.refused([start()], post(0, 0), -17)

    def test_o_above_1(self):
        for o in (2, 3, BIGGEST):
            self.refused(line([5]), post(1, o), -22)
            self.refused(line([5], posts=[1]), post(1, o), -22)

    def test_village_that_is_not_there(self):
        for v in (2, BIGGEST):
            for o in (0, 1):
                self.refused(line([5]), post(v, o), -2)

    def test_which_refusal_is_told(self):
        self.refused(line([5]), post(2, 2), -2)
        self.refused(line([5]), post(BIGGEST, BIGGEST), -2)


class Put(RefusalCase):
    def test_without_posts_as_the_fewest(self):
        self.told([put(5), clear()], [[1, bits(1)], [1]], before=line([5, 5]))

    def test_beside_those_there_are(self):
        self.told([put(5), post(0, 1), post(3, 0)], [[1, bits(3)], [-17], [1]], before=line([5, 5, 5, 5], posts=[0]))

    def test_answers_how_many_more_not_how_many(self):
        self.told([put(0), clear()], [[2, bits(1, 3)], [4]], before=line([5, 5, 5], posts=[0, 2]))

    def test_those_there_are_stay_where_others_would_be_fewer(self):
        self.told([fewest(5), put(5), clear()], [[1, bits(0)], [1, bits(3)], [3]],
                  before=star([5, 5, 5], posts=[1, 2]))

    def test_of_sets_alike_the_first(self):
        self.told([put(10)], [[1, bits(2)]], before=line([5, 5]))
        self.told([put(5)], [[1, bits(3)]], before=line([5, 5, 5], posts=[0]))
        self.told([put(1)], [[2, bits(3, 5)]], before=valley([(0, 1), (0, 9), (2, 1), (2, 9), (4, 1)], posts=[1]))

    def test_first_is_not_the_greatest_number(self):
        # {1, 2}, {1, 5} and {2, 3} are alike; that of {1, 5} is the greatest number.
        self.told([put(4)], [[2, bits(2, 3)]], before=valley([(0, 4), (0, 4), (1, 3), (1, 2), (2, 1)], posts=[4]))

    def test_r_at_its_edges(self):
        self.told([put(1000000)], [[1, bits(1)]], before=line([5]))
        self.told([put(0)], [[2, bits(0, 1)]], before=line([5]))
        for r in (1000001, BIGGEST):
            self.refused(line([5]), put(r), -22)

    def test_those_there_are_serve_all(self):
        self.refused(line([5, 5], posts=[1]), put(5), -17)
        self.refused(line([5, 5], posts=[0]), put(1000000), -17)
        self.refused([start(), post(0, 1)], put(0), -17)
        self.refused(line([5, 5]) + [put(5)], put(5), -17)
        self.told([put(4)], [[2, bits(0, 2)]], before=line([5, 5], posts=[1]))

    def test_which_refusal_is_told(self):
        self.refused(line([5], posts=[0, 1]), put(1000001), -22)
        self.refused(line([5], posts=[0, 1]), put(BIGGEST), -22)


class Clear(RefusalCase):
    def test_answers_how_many_there_were(self):
        self.told([clear(), put(0)], [[2], [3, bits(0, 1, 2)]], before=line([5, 6], posts=[0, 2]))

    def test_no_posts(self):
        self.refused(line([5, 6]), clear(), -17)
        self.refused(line([5, 6], posts=[1]) + [clear()], clear(), -17)

    def test_villages_stay(self):
        self.told([clear(), far(0, 2), drop()], [[1], [11], [2]], before=line([5, 6], posts=[2]))


class NotThere(RefusalCase):
    def test_a_dropped_village(self):
        before = line([5, 6]) + [drop()]
        for call in (village(2, 5), road(2, 5), post(2, 1), far(2, 0), far(0, 2), ball(2, 5),
                     share(2, 0, 5), share(0, 2, 5), near(2), serves(2, 5), look(2)):
            self.refused(before, call, -2)

    def test_seen_tells_valleys_apart(self):
        # The refusals above rest on it.
        valleys = (line([5]), line([6]), line([5], posts=[0]), line([5], posts=[1]), line([5], posts=[0, 1]),
                   line([5, 1]), [start()])
        told = [ask(calls + SEEN)[len(calls):] for calls in valleys]
        for place, one in enumerate(told):
            self.assertNotIn(one, told[:place])
