"""The calls that change the valley.

Each is a function of the valley and the numbers given to it. It answers a list:
its number first, then what else is told; a refusal is one number below 0, alone.
"""

from valleyposts.reach import fewest_more, how_many, serve_all
from valleyposts.refusals import CANNOT_BE, FULL, HAS_POST, NOT_THERE, OUT_OF_RANGE, SO_ALREADY

MOST_VILLAGES = 10
LONGEST_ROAD = 1000
FARTHEST_PUT = 1000000


def wrong_length(n):
    return n < 1 or n > LONGEST_ROAD


def village(valley, given):
    up = given[0]
    far = given[1]
    if valley.lacks(up):
        return [NOT_THERE]
    if wrong_length(far):
        return [OUT_OF_RANGE]
    if valley.size() == MOST_VILLAGES:
        return [FULL]
    valley.change(valley.ups + [up], valley.roads + [far], valley.posts)
    return [valley.size() - 1]


def road(valley, given):
    v = given[0]
    n = given[1]
    if valley.lacks(v):
        return [NOT_THERE]
    if wrong_length(n):
        return [OUT_OF_RANGE]
    if v == 0:
        return [CANNOT_BE]
    before = valley.roads[v]
    valley.change(valley.ups, valley.roads[:v] + [n] + valley.roads[v + 1:], valley.posts)
    return [before]


def drop(valley, given):
    last = valley.size() - 1
    if last == 0:
        return [CANNOT_BE]
    if valley.has_post(last):
        return [HAS_POST]
    valley.change(valley.ups[:last], valley.roads[:last], valley.posts)
    return [valley.size()]


def post(valley, given):
    v = given[0]
    o = given[1]
    if valley.lacks(v):
        return [NOT_THERE]
    if o > 1:
        return [OUT_OF_RANGE]
    if valley.has_post(v) == (o == 1):
        return [SO_ALREADY]
    valley.change_posts(valley.posts ^ (1 << v))
    return [how_many(valley.posts)]


def put(valley, given):
    r = given[0]
    if r > FARTHEST_PUT:
        return [OUT_OF_RANGE]
    balls = valley.balls(r)
    if serve_all(balls, valley.posts):
        return [SO_ALREADY]
    more = fewest_more(balls, valley.posts)
    valley.change_posts(valley.posts | more[1])
    return list(more)


def clear_posts(valley, given):
    if valley.posts == 0:
        return [SO_ALREADY]
    before = how_many(valley.posts)
    valley.change_posts(0)
    return [before]


# Calls 1 to 6, in the order of their numbers: what answers each, and how many numbers are given to it.
CHANGES = ((village, 2), (road, 2), (drop, 0), (post, 2), (put, 1), (clear_posts, 0))
