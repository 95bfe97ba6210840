"""The document's words by brute force: every set is looked at, in the words' own order."""

from itertools import combinations

NEVER = 10 ** 12


def how_far(roads):
    """For each two villages; roads holds (up, length) of village 1, 2, .."""
    count = len(roads) + 1
    table = [[0 if v == w else NEVER for w in range(count)] for v in range(count)]
    for v, (up, length) in enumerate(roads, start=1):
        table[v][up] = length
        table[up][v] = length
    for via in range(count):
        for v in range(count):
            for w in range(count):
                table[v][w] = min(table[v][w], table[v][via] + table[via][w])
    return table


def number(villages):
    return sum(1 << v for v in villages)


def comes_first(one, other):
    """Of two sets alike: is it the one that leaves out the least village in which they differ?"""
    return min(set(one) ^ set(other)) not in one


def first(sets):
    best = sets[0]
    for one in sets[1:]:
        if comes_first(one, best):
            best = one
    return best


def serve_all(table, posts, r):
    return all(any(row[p] <= r for p in posts) for row in table)


def could_share(table, v, w, r):
    return any(row[v] <= r and row[w] <= r for row in table)


def fewest_more_sets(table, posts, r):
    free = [v for v in range(len(table)) if v not in posts]
    for count in range(len(free) + 1):
        sets = [more for more in combinations(free, count) if serve_all(table, set(more) | set(posts), r)]
        if sets:
            return sets
    raise AssertionError("posts in all villages serve all")


def lonely_sets(table, r):
    count = len(table)
    while True:
        sets = [some for some in combinations(range(len(table)), count)
                if not any(could_share(table, v, w, r) for v, w in combinations(some, 2))]
        if sets:
            return sets
        count -= 1


def fewest_more(table, posts, r):
    more = first(fewest_more_sets(table, posts, r))
    return [len(more), number(more)]


def lonely(table, r):
    some = first(lonely_sets(table, r))
    return [len(some), number(some)]


def least(table, k):
    for r in sorted({far for row in table for far in row}):
        told = fewest_more(table, (), r)
        if told[0] <= k:
            return [r, told[1]]
    raise AssertionError("one post serves all by the farthest reach")


NAMES = """start village road drop post put clear far ball share fewest lonely least
           add within near worst idle one widest serves look posts back again state""".split()
CHANGES = ("village", "road", "drop", "post", "put", "clear")


class Model:
    """Answers one call after another, as the document says.

    Of all the valleys that there were, one behind each change, place is the one there is now;
    those ahead of the least one can't be come back to.
    """

    def __init__(self):
        self.roads = []
        self.posts = set()
        self.valleys = [self.copy()]
        self.place = 0
        self.least_place = 0

    def answer(self, call):
        name = NAMES[call[0]]
        told = getattr(self, "vp_" + name)(*call[1:])
        if name in CHANGES and told[0] >= 0:
            self.valleys = self.valleys[:self.place + 1] + [self.copy()]
            self.place += 1
            self.least_place = max(self.least_place, self.place - 20)
        return told

    def copy(self):
        return list(self.roads), set(self.posts)

    def go_to(self, place):
        self.place = place
        roads, posts = self.valleys[place]
        self.roads = list(roads)
        self.posts = set(posts)

    def count(self):
        return len(self.roads) + 1

    def table(self):
        return how_far(self.roads)

    def nearest(self, v):
        """How far the nearest post of v is, and which."""
        far = min(self.table()[v][p] for p in self.posts)
        return far, min(p for p in self.posts if self.table()[v][p] == far)

    def vp_start(self):
        self.__init__()
        return [0]

    def vp_village(self, up, far):
        if up >= self.count():
            return [-2]
        if not 1 <= far <= 1000:
            return [-22]
        if self.count() == 10:
            return [-28]
        self.roads.append((up, far))
        return [len(self.roads)]

    def vp_road(self, v, n):
        if v >= self.count():
            return [-2]
        if not 1 <= n <= 1000:
            return [-22]
        if v == 0:
            return [-33]
        up, before = self.roads[v - 1]
        self.roads[v - 1] = (up, n)
        return [before]

    def vp_drop(self):
        if not self.roads:
            return [-33]
        if len(self.roads) in self.posts:
            return [-16]
        self.roads.pop()
        return [self.count()]

    def vp_post(self, v, o):
        if v >= self.count():
            return [-2]
        if o > 1:
            return [-22]
        if (v in self.posts) == bool(o):
            return [-17]
        self.posts ^= {v}
        return [len(self.posts)]

    def vp_put(self, r):
        if r > 1000000:
            return [-22]
        if serve_all(self.table(), self.posts, r):
            return [-17]
        told = fewest_more(self.table(), self.posts, r)
        self.posts |= {v for v in range(10) if told[1] >> v & 1}
        return told

    def vp_clear(self):
        if not self.posts:
            return [-17]
        before = len(self.posts)
        self.posts = set()
        return [before]

    def vp_far(self, v, w):
        if max(v, w) >= self.count():
            return [-2]
        return [self.table()[v][w]]

    def vp_ball(self, v, r):
        if v >= self.count():
            return [-2]
        inside = [w for w, far in enumerate(self.table()[v]) if far <= r]
        return [len(inside), number(inside)]

    def vp_share(self, v, w, r):
        if max(v, w) >= self.count():
            return [-2]
        both = [u for u, row in enumerate(self.table()) if row[v] <= r and row[w] <= r]
        return [both[0]] if both else [-33]

    def vp_fewest(self, r):
        return fewest_more(self.table(), (), r)

    def vp_lonely(self, r):
        return lonely(self.table(), r)

    def vp_least(self, k):
        return [-22] if k == 0 else least(self.table(), k)

    def vp_add(self, r):
        return fewest_more(self.table(), self.posts, r)

    def vp_within(self, r):
        outside = [v for v, row in enumerate(self.table()) if not any(row[p] <= r for p in self.posts)]
        return [0 if outside else 1, number(outside)]

    def vp_near(self, v):
        if v >= self.count():
            return [-2]
        if not self.posts:
            return [-6]
        far, post = self.nearest(v)
        return [post, far]

    def vp_worst(self):
        if not self.posts:
            return [-6]
        fars = [self.nearest(v)[0] for v in range(self.count())]
        return [min(v for v in range(self.count()) if fars[v] == max(fars)), max(fars)]

    def vp_idle(self, r):
        if not serve_all(self.table(), self.posts, r):
            return [-33]
        spare = [p for p in self.posts if serve_all(self.table(), self.posts - {p}, r)]
        return [len(spare), number(spare)]

    def vp_one(self, w, r):
        if any(w >> bit & 1 for bit in range(self.count(), 32)):
            return [-22]
        wanted = [v for v in range(self.count()) if w >> v & 1]
        serving = [u for u, row in enumerate(self.table()) if all(row[v] <= r for v in wanted)]
        return [min(serving)] if serving else [-33]

    def vp_widest(self):
        table = self.table()
        farthest = max(far for row in table for far in row)
        return [farthest] + min([v, w] for v in range(self.count()) for w in range(v, self.count())
                                if table[v][w] == farthest)

    def vp_serves(self, p, r):
        if p >= self.count():
            return [-2]
        if not self.posts:
            return [0, 0]
        fars = [self.nearest(v) for v in range(self.count())]
        inside = [v for v, (far, post) in enumerate(fars) if post == p and far <= r]
        return [len(inside), number(inside)]

    def vp_look(self, v):
        if v >= self.count():
            return [-2]
        up, length = self.roads[v - 1] if v else (0, 0)
        return [int(v in self.posts), up, length]

    def vp_posts(self):
        return [len(self.posts), number(self.posts)]

    def vp_back(self):
        if self.place == self.least_place:
            return [-2]
        self.go_to(self.place - 1)
        return [self.place - self.least_place]

    def vp_again(self):
        if self.place == len(self.valleys) - 1:
            return [-2]
        self.go_to(self.place + 1)
        return [len(self.valleys) - 1 - self.place]

    def vp_state(self):
        return [self.count(), self.place - self.least_place, len(self.valleys) - 1 - self.place]
