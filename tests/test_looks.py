"""Point 6: the questions of the valley as it is."""

from tests.lines import BIGGEST, bits, clear, drop, line, look, post, posts, put, road, star, start, valley, widest
from tests.refusals import RefusalCase

# Two arms at village 0: 0 - 1 - 2 (3 and 4 long), 0 - 3 - 4 (10 and 1 long).
ARMS = valley([(0, 3), (1, 4), (0, 10), (3, 1)])
TEN = line([1] * 9)


class Widest(RefusalCase):
    def test_the_farthest_two(self):
        self.told([widest()], [[18, 2, 4]], before=ARMS)
        self.told([widest()], [[5, 0, 1]], before=line([5]))
        self.told([widest()], [[9000, 0, 9]], before=line([1000] * 9))

    def test_lesser_first(self):
        # A line of 3 - 1 - 0 - 2.
        self.told([widest()], [[8, 2, 3]], before=valley([(0, 1), (0, 3), (1, 4)]))

    def test_follows_a_changed_road(self):
        self.told([road(3, 1), road(4, 2), widest(), road(1, 1), widest()],
                  [[10], [1], [10, 2, 4], [3], [8, 2, 4]], before=ARMS)

    def test_of_like_ones_the_least_first_one(self):
        # 2 and 3 are 10 from 4, and only 6 from each other.
        self.told([widest()], [[10, 2, 4]], before=valley([(0, 2), (1, 3), (1, 3), (0, 5)]))

    def test_of_like_ones_the_least_second_one(self):
        self.told([widest()], [[10, 1, 2]], before=star([5, 5, 5]))
        self.told([widest()], [[10, 1, 2]], before=star([5] * 9))
        # 3 and 4 are 12 from 1, and only 10 from each other.
        self.told([widest()], [[12, 1, 3]], before=valley([(0, 6), (0, 1), (2, 5), (2, 5)]))

    def test_village_0_alone(self):
        self.told([widest()], [[0, 0, 0]], before=[start()])
        self.told([drop(), widest()], [[1], [0, 0, 0]], before=line([5]))

    def test_changes_nothing(self):
        self.changes_nothing(ARMS + [post(2, 1)], widest())


class Look(RefusalCase):
    def test_up_and_road(self):
        self.told([look(1), look(2), look(3), look(4)], [[0, 0, 3], [0, 1, 4], [0, 0, 10], [0, 3, 1]], before=ARMS)

    def test_post(self):
        self.told([post(2, 1), look(2), look(1), post(2, 0), look(2)], [[1], [1, 1, 4], [0, 0, 3], [0], [0, 1, 4]],
                  before=ARMS)

    def test_village_0(self):
        self.told([look(0), post(0, 1), look(0)], [[0, 0, 0], [1], [1, 0, 0]], before=[start()])
        self.told([look(0)], [[0, 0, 0]], before=ARMS)

    def test_changed_road(self):
        self.told([road(2, 1000), look(2)], [[4], [0, 1, 1000]], before=ARMS)

    def test_ten_villages(self):
        self.told([look(9)], [[0, 8, 1]], before=TEN)
        self.refused(TEN, look(10), -2)

    def test_village_that_is_not_there(self):
        for v in (5, BIGGEST):
            self.refused(ARMS, look(v), -2)
        self.refused([start()], look(1), -2)
        self.refused(ARMS + [drop()], look(4), -2)

    def test_changes_nothing(self):
        self.changes_nothing(ARMS + [post(2, 1)], look(2))


class Posts(RefusalCase):
    def test_those_that_have_posts(self):
        self.told([post(3, 1), posts(), post(0, 1), posts(), post(3, 0), posts()],
                  [[1], [1, bits(3)], [2], [2, bits(0, 3)], [1], [1, bits(0)]], before=ARMS)

    def test_those_put(self):
        self.told([put(4), posts(), clear(), posts()], [[2, bits(1, 4)], [2, bits(1, 4)], [2], [0, 0]], before=ARMS)

    def test_no_posts(self):
        for before in ([start()], ARMS, TEN):
            self.told([posts()], [[0, 0]], before=before)

    def test_posts_everywhere(self):
        self.told([post(0, 1), posts()], [[1], [1, 1]], before=[start()])
        self.told([posts()], [[10, 1023]], before=line([1] * 9, posts=range(10)))

    def test_changes_nothing(self):
        self.changes_nothing(ARMS + [post(2, 1)], posts())
