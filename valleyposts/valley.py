"""The valley, and a list of calls on it."""

from valleyposts.changes import CHANGES
from valleyposts.history import HISTORY
from valleyposts.questions import QUESTIONS
from valleyposts.reach import balls_of, distances, has

MOST_TAKEN_BACK = 20


class Valley:
    """Of each village its up and how long its road is, by number; the posts as a set.

    Beside these, as (ups, roads, posts), the last one last: what was ahead of each change
    that can be taken back, and what was behind each that can be done again.
    """

    def __init__(self):
        self.begin()

    def begin(self):
        self.become(([0], [0], 0))
        self.earlier = []
        self.undone = []

    def now(self):
        # The lists are never written into, each change brings others: so they can be kept as they are.
        return (self.ups, self.roads, self.posts)

    def become(self, kept):
        self.ups = kept[0]
        self.roads = kept[1]
        self.posts = kept[2]

    def change(self, ups, roads, posts):
        self.earlier.append(self.now())
        self.earlier = self.earlier[-MOST_TAKEN_BACK:]
        self.undone = []
        self.become((ups, roads, posts))

    def change_posts(self, posts):
        self.change(self.ups, self.roads, posts)

    def take_back(self):
        self.undone.append(self.now())
        self.become(self.earlier.pop())

    def do_again(self):
        self.earlier.append(self.now())
        self.become(self.undone.pop())

    def size(self):
        return len(self.ups)

    def lacks(self, v):
        return v >= len(self.ups)

    def has_post(self, v):
        return has(self.posts, v)

    def table(self):
        return distances(self.ups, self.roads)

    def balls(self, r):
        return balls_of(self.table(), r)


def start(valley, given):
    valley.begin()
    return [0]


def all_calls():
    """By the number of the call: what answers it, and how many numbers are given to it."""
    return ((start, 0),) + CHANGES + QUESTIONS + HISTORY


def answers(calls):
    """For each call in the list, one behind another: how many numbers are answered, then these."""
    known = all_calls()
    valley = Valley()
    told = []
    place = 0
    while place < len(calls):
        call = known[calls[place]]
        end = place + 1 + call[1]
        answer = call[0](valley, calls[place + 1:end])
        told.append(len(answer))
        told.extend(answer)
        place = end
    return told
