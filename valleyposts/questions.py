"""The calls that ask of the valley and change nothing.

Each is a function of the valley and the numbers given to it. It answers a list:
its number first, then what else is told; a refusal is one number below 0, alone.
"""

from valleyposts.reach import ball, everyone, fewest, fewest_more, how_far, how_many, idle, least_of, least_reach
from valleyposts.reach import lonely, nearest, serve_all, served_by, unserved, widest, within_all, worst
from valleyposts.refusals import CANNOT_BE, NO_POSTS, NOT_THERE, OUT_OF_RANGE


def counted(villages):
    return [how_many(villages), villages]


def far_apart(valley, given):
    v = given[0]
    w = given[1]
    if valley.lacks(v) or valley.lacks(w):
        return [NOT_THERE]
    return [how_far(valley.ups, valley.roads, v, w)]


def ball_of(valley, given):
    v = given[0]
    r = given[1]
    if valley.lacks(v):
        return [NOT_THERE]
    return counted(ball(valley.table()[v], r))


def least_within_all(balls, villages):
    near = within_all(balls, villages)
    if near == 0:
        return [CANNOT_BE]
    return [least_of(near)]


def share(valley, given):
    v = given[0]
    w = given[1]
    r = given[2]
    if valley.lacks(v) or valley.lacks(w):
        return [NOT_THERE]
    return least_within_all(valley.balls(r), (1 << v) | (1 << w))


def one_for_all(valley, given):
    w = given[0]
    r = given[1]
    balls = valley.balls(r)
    if w > everyone(balls):
        return [OUT_OF_RANGE]
    return least_within_all(balls, w)


def fewest_posts(valley, given):
    return list(fewest(valley.balls(given[0])))


def lonely_villages(valley, given):
    return list(lonely(valley.balls(given[0])))


def least(valley, given):
    k = given[0]
    if k == 0:
        return [OUT_OF_RANGE]
    r = least_reach(valley.table(), k)
    return [r, fewest(valley.balls(r))[1]]


def more_posts(valley, given):
    return list(fewest_more(valley.balls(given[0]), valley.posts))


def out_of_reach(valley, given):
    villages = unserved(valley.balls(given[0]), valley.posts)
    return [1 if villages == 0 else 0, villages]


def nearest_post(valley, given):
    v = given[0]
    if valley.lacks(v):
        return [NOT_THERE]
    if valley.posts == 0:
        return [NO_POSTS]
    found = nearest(valley.table()[v], valley.posts)
    return [found[1], found[0]]


def worst_village(valley, given):
    if valley.posts == 0:
        return [NO_POSTS]
    found = worst(valley.table(), valley.posts)
    return [found[1], found[0]]


def idle_posts(valley, given):
    balls = valley.balls(given[0])
    if not serve_all(balls, valley.posts):
        return [CANNOT_BE]
    return counted(idle(balls, valley.posts))


def served_villages(valley, given):
    p = given[0]
    r = given[1]
    if valley.lacks(p):
        return [NOT_THERE]
    # Ahead of any search for the nearest post: without posts there is none to find.
    if not valley.has_post(p):
        return [0, 0]
    return counted(served_by(valley.table(), valley.posts, p, r))


def widest_pair(valley, given):
    return list(widest(valley.table()))


def look(valley, given):
    v = given[0]
    if valley.lacks(v):
        return [NOT_THERE]
    return [1 if valley.has_post(v) else 0, valley.ups[v], valley.roads[v]]


def posts_there(valley, given):
    return counted(valley.posts)


# Calls 7 to 22, in the order of their numbers: what answers each, and how many numbers are given to it.
QUESTIONS = ((far_apart, 2), (ball_of, 2), (share, 3), (fewest_posts, 1), (lonely_villages, 1), (least, 1),
             (more_posts, 1), (out_of_reach, 1), (nearest_post, 1), (worst_village, 0), (idle_posts, 1),
             (one_for_all, 2), (widest_pair, 0), (served_villages, 2), (look, 1), (posts_there, 0))
