"""The valley, and the calls on it.

Each call is a function of the valley and the numbers given to it. It answers a list:
its number first, then what else is told; a refusal is one number below 0, alone.
"""

from valleyposts.reach import ball, balls_of, distances, fewest, fewest_more, has, how_far, how_many
from valleyposts.reach import least_of, least_reach, lonely, serve_all

MOST_VILLAGES = 10
LONGEST_ROAD = 1000
FARTHEST_PUT = 1000000

NOT_THERE = -2
HAS_POST = -16
SO_ALREADY = -17
OUT_OF_RANGE = -22
FULL = -28
CANNOT_BE = -33


class Valley:
    """Of each village its up and how long its road is, by number; the posts as a set."""

    def __init__(self):
        self.begin()

    def begin(self):
        self.ups = [0]
        self.roads = [0]
        self.posts = 0

    def size(self):
        return len(self.ups)

    def lacks(self, v):
        return v >= len(self.ups)

    def has_post(self, v):
        return has(self.posts, v)

    def table(self):
        return distances(self.ups, self.roads)

    def balls(self, r):
        return balls_of(self.table(), r)


def wrong_length(n):
    return n < 1 or n > LONGEST_ROAD


def start(valley, given):
    valley.begin()
    return [0]


def village(valley, given):
    up = given[0]
    far = given[1]
    if valley.lacks(up):
        return [NOT_THERE]
    if wrong_length(far):
        return [OUT_OF_RANGE]
    if valley.size() == MOST_VILLAGES:
        return [FULL]
    valley.ups = valley.ups + [up]
    valley.roads = valley.roads + [far]
    return [valley.size() - 1]


def road(valley, given):
    v = given[0]
    n = given[1]
    if valley.lacks(v):
        return [NOT_THERE]
    if wrong_length(n):
        return [OUT_OF_RANGE]
    if v == 0:
        return [CANNOT_BE]
    before = valley.roads[v]
    valley.roads = valley.roads[:v] + [n] + valley.roads[v + 1:]
    return [before]


def drop(valley, given):
    last = valley.size() - 1
    if last == 0:
        return [CANNOT_BE]
    if valley.has_post(last):
        return [HAS_POST]
    valley.ups = valley.ups[:last]
    valley.roads = valley.roads[:last]
    return [valley.size()]


def post(valley, given):
    v = given[0]
    o = given[1]
    if valley.lacks(v):
        return [NOT_THERE]
    if o > 1:
        return [OUT_OF_RANGE]
    if valley.has_post(v) == (o == 1):
        return [SO_ALREADY]
    valley.posts = valley.posts ^ (1 << v)
    return [how_many(valley.posts)]


def put(valley, given):
    r = given[0]
    if r > FARTHEST_PUT:
        return [OUT_OF_RANGE]
    balls = valley.balls(r)
    if serve_all(balls, valley.posts):
        return [SO_ALREADY]
    more = fewest_more(balls, valley.posts)
    valley.posts = valley.posts | more[1]
    return list(more)


def clear_posts(valley, given):
    if valley.posts == 0:
        return [SO_ALREADY]
    before = how_many(valley.posts)
    valley.posts = 0
    return [before]


def far_apart(valley, given):
    v = given[0]
    w = given[1]
    if valley.lacks(v) or valley.lacks(w):
        return [NOT_THERE]
    return [how_far(valley.ups, valley.roads, v, w)]


def ball_of(valley, given):
    v = given[0]
    r = given[1]
    if valley.lacks(v):
        return [NOT_THERE]
    villages = ball(valley.table()[v], r)
    return [how_many(villages), villages]


def share(valley, given):
    v = given[0]
    w = given[1]
    r = given[2]
    if valley.lacks(v) or valley.lacks(w):
        return [NOT_THERE]
    balls = valley.balls(r)
    both = balls[v] & balls[w]
    if both == 0:
        return [CANNOT_BE]
    return [least_of(both)]


def fewest_posts(valley, given):
    return list(fewest(valley.balls(given[0])))


def lonely_villages(valley, given):
    return list(lonely(valley.balls(given[0])))


def least(valley, given):
    k = given[0]
    if k == 0:
        return [OUT_OF_RANGE]
    r = least_reach(valley.table(), k)
    return [r, fewest(valley.balls(r))[1]]


# By the number of the call: what answers it, and how many numbers are given to it.
CALLS = (start, village, road, drop, post, put, clear_posts, far_apart, ball_of, share,
         fewest_posts, lonely_villages, least)
GIVEN = (0, 2, 2, 0, 2, 1, 0, 2, 2, 3, 1, 1, 1)


def answers(calls):
    """For each call in the list, one behind another: how many numbers are answered, then these."""
    valley = Valley()
    told = []
    place = 0
    while place < len(calls):
        number = calls[place]
        end = place + 1 + GIVEN[number]
        answer = CALLS[number](valley, calls[place + 1:end])
        told.append(len(answer))
        told.extend(answer)
        place = end
    return told
