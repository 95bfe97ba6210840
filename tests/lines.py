"""What the tests write calls with, and read answers with."""

from valleyposts.valley import answers

BIGGEST = 4294967295


def start():
    return [0]


def village(up, far):
    return [1, up, far]


def road(v, n):
    return [2, v, n]


def drop():
    return [3]


def post(v, o):
    return [4, v, o]


def put(r):
    return [5, r]


def clear():
    return [6]


def far(v, w):
    return [7, v, w]


def ball(v, r):
    return [8, v, r]


def share(v, w, r):
    return [9, v, w, r]


def fewest(r):
    return [10, r]


def lonely(r):
    return [11, r]


def least(k):
    return [12, k]


def add(r):
    return [13, r]


def within(r):
    return [14, r]


def near(v):
    return [15, v]


def worst():
    return [16]


def idle(r):
    return [17, r]


def one(w, r):
    return [18, w, r]


def widest():
    return [19]


def serves(p, r):
    return [20, p, r]


def look(v):
    return [21, v]


def posts():
    return [22]


def back():
    return [23]


def again():
    return [24]


def state():
    return [25]


def joined(calls):
    return [number for call in calls for number in call]


def split(told):
    """The answers one by one; fails if a count doesn't fit what is behind it."""
    lists = []
    place = 0
    while place < len(told):
        end = place + 1 + told[place]
        if told[place] < 1 or end > len(told):
            raise AssertionError(f"a count at {place} that doesn't fit: {told}")
        lists.append(told[place + 1:end])
        place = end
    return lists


def ask(calls):
    """The answer to each of these calls, each call a list of its own."""
    if len(calls) > 1000:
        raise AssertionError(f"a list has at most 1,000 calls, not {len(calls)}")
    lists = split(answers(joined(calls)))
    if len(lists) != len(calls):
        raise AssertionError(f"{len(calls)} calls, {len(lists)} answers")
    return lists


def last(calls):
    return ask(calls)[-1]


def bits(*villages):
    return sum(1 << v for v in villages)


def members(villages):
    return [v for v in range(10) if villages >> v & 1]


def valley(roads, posts=()):
    """Calls that make a valley: for village 1, 2, .. its up and how long its road is; then the posts."""
    return ([start()] + [village(up, length) for up, length in roads]
            + [post(v, 1) for v in posts])


def line(lengths, posts=()):
    return valley(list(enumerate(lengths)), posts)


def star(lengths, posts=()):
    return valley([(0, length) for length in lengths], posts)


# All that makes a valley, and how many changes can be taken back and done again.
LOOKS = [state(), posts()] + [look(v) for v in range(11)]

# The same, and of each change that can be done again or taken back what it leads to. It ends far back.
SEEN = LOOKS + ([again()] + LOOKS) * 21 + ([back()] + LOOKS) * 21


VILLAGES = list(range(11)) + [BIGGEST]
SETS = [0, 1, 2, 3, 5, 6, 7, 10, 31, 32, 511, 512, 1023, 1024, BIGGEST]


def questions(reaches):
    """Questions of every kind, with these reaches: of villages that may be there, and of such as can't."""
    pairs = [(v, w) for v in VILLAGES for w in VILLAGES]
    asked = [far(v, w) for v, w in pairs] + [share(v, w, r) for v, w in pairs[::5] for r in reaches]
    asked += [call(v) for call in (near, look) for v in VILLAGES]
    asked += [call(v, r) for call in (ball, serves) for v in VILLAGES for r in reaches]
    asked += [call(r) for call in (fewest, lonely, add, within, idle) for r in reaches]
    asked += [one(w, r) for w in SETS for r in reaches] + [least(k) for k in range(12)]
    return asked + [worst(), widest(), posts()]
