"""What the tests write calls with, and read answers with."""

from valleyposts.valley import answers

BIGGEST = 4294967295


def start():
    return [0]


def village(up, far):
    return [1, up, far]


def road(v, n):
    return [2, v, n]


def drop():
    return [3]


def post(v, o):
    return [4, v, o]


def put(r):
    return [5, r]


def clear():
    return [6]


def far(v, w):
    return [7, v, w]


def ball(v, r):
    return [8, v, r]


def share(v, w, r):
    return [9, v, w, r]


def fewest(r):
    return [10, r]


def lonely(r):
    return [11, r]


def least(k):
    return [12, k]


def joined(calls):
    return [number for call in calls for number in call]


def split(told):
    """The answers one by one; fails if a count doesn't fit what is behind it."""
    lists = []
    place = 0
    while place < len(told):
        end = place + 1 + told[place]
        if told[place] < 1 or end > len(told):
            raise AssertionError(f"a count at {place} that doesn't fit: {told}")
        lists.append(told[place + 1:end])
        place = end
    return lists


def ask(calls):
    """The answer to each of these calls, each call a list of its own."""
    lists = split(answers(joined(calls)))
    if len(lists) != len(calls):
        raise AssertionError(f"{len(calls)} calls, {len(lists)} answers")
    return lists


def last(calls):
    return ask(calls)[-1]


def bits(*villages):
    return sum(1 << v for v in villages)


def valley(roads, posts=()):
    """Calls that make a valley: for village 1, 2, .. its up and how long its road is; then the posts."""
    return ([start()] + [village(up, length) for up, length in roads]
            + [post(v, 1) for v in posts])


def line(lengths, posts=()):
    return valley(list(enumerate(lengths)), posts)


def star(lengths, posts=()):
    return valley([(0, length) for length in lengths], posts)


# All there is to see of a valley: how far any two are, then, by a put of reach 0, which have no post.
SEEN = [far(v, w) for v in range(11) for w in range(v, 11)] + [put(0), clear()]
