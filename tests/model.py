"""The document's words by brute force: every set is looked at, in the words' own order."""

from itertools import combinations

NEVER = 10 ** 12


def how_far(roads):
    """For each two villages; roads holds (up, length) of village 1, 2, .."""
    count = len(roads) + 1
    table = [[0 if v == w else NEVER for w in range(count)] for v in range(count)]
    for v, (up, length) in enumerate(roads, start=1):
        table[v][up] = length
        table[up][v] = length
    for via in range(count):
        for v in range(count):
            for w in range(count):
                table[v][w] = min(table[v][w], table[v][via] + table[via][w])
    return table


def number(villages):
    return sum(1 << v for v in villages)


def comes_first(one, other):
    """Of two sets alike: is it the one that leaves out the least village in which they differ?"""
    return min(set(one) ^ set(other)) not in one


def first(sets):
    best = sets[0]
    for one in sets[1:]:
        if comes_first(one, best):
            best = one
    return best


def serve_all(table, posts, r):
    return all(any(row[p] <= r for p in posts) for row in table)


def could_share(table, v, w, r):
    return any(row[v] <= r and row[w] <= r for row in table)


def fewest_more_sets(table, posts, r):
    free = [v for v in range(len(table)) if v not in posts]
    for count in range(len(free) + 1):
        sets = [more for more in combinations(free, count) if serve_all(table, set(more) | set(posts), r)]
        if sets:
            return sets
    raise AssertionError("posts in all villages serve all")


def lonely_sets(table, r):
    count = len(table)
    while True:
        sets = [some for some in combinations(range(len(table)), count)
                if not any(could_share(table, v, w, r) for v, w in combinations(some, 2))]
        if sets:
            return sets
        count -= 1


def fewest_more(table, posts, r):
    more = first(fewest_more_sets(table, posts, r))
    return [len(more), number(more)]


def lonely(table, r):
    some = first(lonely_sets(table, r))
    return [len(some), number(some)]


def least(table, k):
    for r in sorted({far for row in table for far in row}):
        told = fewest_more(table, (), r)
        if told[0] <= k:
            return [r, told[1]]
    raise AssertionError("one post serves all by the farthest reach")


class Model:
    """Answers one call after another, as points 1 to 4 say."""

    def __init__(self):
        self.roads = []
        self.posts = set()

    def answer(self, call):
        names = ("start", "village", "road", "drop", "post", "put", "clear",
                 "far", "ball", "share", "fewest", "lonely", "least")
        return getattr(self, names[call[0]])(*call[1:])

    def count(self):
        return len(self.roads) + 1

    def table(self):
        return how_far(self.roads)

    def start(self):
        self.__init__()
        return [0]

    def village(self, up, far):
        if up >= self.count():
            return [-2]
        if not 1 <= far <= 1000:
            return [-22]
        if self.count() == 10:
            return [-28]
        self.roads.append((up, far))
        return [len(self.roads)]

    def road(self, v, n):
        if v >= self.count():
            return [-2]
        if not 1 <= n <= 1000:
            return [-22]
        if v == 0:
            return [-33]
        up, before = self.roads[v - 1]
        self.roads[v - 1] = (up, n)
        return [before]

    def drop(self):
        if not self.roads:
            return [-33]
        if len(self.roads) in self.posts:
            return [-16]
        self.roads.pop()
        return [self.count()]

    def post(self, v, o):
        if v >= self.count():
            return [-2]
        if o > 1:
            return [-22]
        if (v in self.posts) == bool(o):
            return [-17]
        self.posts ^= {v}
        return [len(self.posts)]

    def put(self, r):
        if r > 1000000:
            return [-22]
        if serve_all(self.table(), self.posts, r):
            return [-17]
        told = fewest_more(self.table(), self.posts, r)
        self.posts |= {v for v in range(10) if told[1] >> v & 1}
        return told

    def clear(self):
        if not self.posts:
            return [-17]
        before = len(self.posts)
        self.posts = set()
        return [before]

    def far(self, v, w):
        if max(v, w) >= self.count():
            return [-2]
        return [self.table()[v][w]]

    def ball(self, v, r):
        if v >= self.count():
            return [-2]
        inside = [w for w, far in enumerate(self.table()[v]) if far <= r]
        return [len(inside), number(inside)]

    def share(self, v, w, r):
        if max(v, w) >= self.count():
            return [-2]
        both = [u for u, row in enumerate(self.table()) if row[v] <= r and row[w] <= r]
        return [both[0]] if both else [-33]

    def fewest(self, r):
        return fewest_more(self.table(), (), r)

    def lonely(self, r):
        return lonely(self.table(), r)

    def least(self, k):
        return [-22] if k == 0 else least(self.table(), k)
