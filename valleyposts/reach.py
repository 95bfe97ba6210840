"""How far villages are from each other, and which sets of them serve all or are lonely.

A set of villages is a whole number: bit v is 1 if village v is in it.
A table holds a row for each village: how far it is from village 0, 1, ..
Balls hold a set for each village: those within the reach at hand.
"""


def has(villages, v):
    return (villages >> v) & 1 == 1


def how_many(villages):
    count = 0
    while villages:
        villages = villages & (villages - 1)
        count = count + 1
    return count


def how_far(ups, roads, v, w):
    # An up has a lesser number than its village, so the greater of two can't be on the way up from the lesser.
    far = 0
    while v != w:
        if v > w:
            far = far + roads[v]
            v = ups[v]
        else:
            far = far + roads[w]
            w = ups[w]
    return far


def distances(ups, roads):
    table = []
    for v in range(len(ups)):
        table.append([how_far(ups, roads, v, w) for w in range(len(ups))])
    return table


def set_of(numbers):
    return sum([1 << v for v in numbers])


def ball(row, r):
    return set_of([v for v in range(len(row)) if row[v] <= r])


def balls_of(table, r):
    return [ball(row, r) for row in table]


def least_of(villages):
    v = 0
    while not has(villages, v):
        v = v + 1
    return v


def served(balls, posts):
    villages = 0
    for v in range(len(balls)):
        if has(posts, v):
            villages = villages | balls[v]
    return villages


def everyone(balls):
    return (1 << len(balls)) - 1


def unserved(balls, posts):
    return everyone(balls) ^ served(balls, posts)


def serve_all(balls, posts):
    return unserved(balls, posts) == 0


def idle(balls, posts):
    """The posts without each of which the others serve all."""
    return set_of([v for v in range(len(balls)) if has(posts, v) and serve_all(balls, posts ^ (1 << v))])


def within_all(balls, villages):
    """Those within reach of each of the villages: of none, everyone."""
    near = everyone(balls)
    for v in range(len(balls)):
        if has(villages, v):
            near = near & balls[v]
    return near


def fewest_more(balls, posts):
    """The count and the set of the fewest villages that serve all beside the posts."""
    # From the last village to the first, and without it ahead of with it: so of two ways
    # the one that leaves out the least village in which they differ stands first, and min keeps it.
    ways = [(0, 0, served(balls, posts))]
    for v in range(len(balls) - 1, -1, -1):
        if not has(posts, v):
            ways = ways + [(way[0] + 1, way[1] | (1 << v), way[2] | balls[v]) for way in ways]
    whole = everyone(balls)
    best = min([way for way in ways if way[2] == whole], key=lambda way: way[0])
    return (best[0], best[1])


def fewest(balls):
    return fewest_more(balls, 0)


def lonely(balls):
    """The count and the set of the most villages no two of which could share a post."""
    # The order of the ways is that of fewest_more, and max keeps the first, too.
    ways = [(0, 0)]
    for v in range(len(balls) - 1, -1, -1):
        sharers = served(balls, balls[v])
        ways = ways + [(way[0] + 1, way[1] | (1 << v)) for way in ways if not way[1] & sharers]
    return max(ways, key=lambda way: way[0])


def least_reach(table, k):
    """The least reach for which k posts, 1 or more, serve all."""
    # Balls change only at a reach that is how far two villages are, and one post serves all at the last of these.
    lengths = []
    for row in table:
        lengths.extend(row)
    reaches = sorted(set(lengths))
    low = 0
    high = len(reaches) - 1
    while low < high:
        middle = (low + high) // 2
        if fewest(balls_of(table, reaches[middle]))[0] <= k:
            high = middle
        else:
            low = middle + 1
    return reaches[low]


def nearest(row, posts):
    """How far the nearest post is, and which: the least of like ones. There must be a post."""
    return min([(row[v], v) for v in range(len(row)) if has(posts, v)])


def worst(table, posts):
    """How far the farthest nearest post is, and from which village: the least of like ones."""
    fars = [nearest(row, posts)[0] for row in table]
    far = max(fars)
    return (far, fars.index(far))


def served_by(table, posts, p, r):
    """The villages within r of the post p whose nearest post it is."""
    return set_of([v for v in range(len(table)) if table[v][p] <= r and nearest(table[v], posts)[1] == p])


def widest(table):
    """How far the farthest two are, and which: of like ones the first, by their numbers."""
    best = (0, 0, 0)
    for v in range(len(table)):
        for w in range(v + 1, len(table)):
            if table[v][w] > best[0]:
                best = (table[v][w], v, w)
    return best
