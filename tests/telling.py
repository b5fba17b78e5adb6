"""The document's words of ways home, crowds and loners, told a second time: by looking at all there is.

A party is a frozenset of guests, and the set of the pairs who know each other, each a frozenset of two.
"""

from itertools import combinations, permutations


def know(friends, u, v):
    return frozenset((u, v)) in friends


def all_steps(guests, friends):
    """All pairs of one who goes and one who stays, alike among the guests, in order."""
    return [
        (u, v) for u, v in permutations(sorted(guests), 2)
        if all(know(friends, u, w) == know(friends, v, w) for w in guests - {u, v})
    ]


def ways_home(guests, friends):
    if len(guests) < 2:
        return [[]]
    return [[u, v, *rest] for u, v in all_steps(guests, friends) for rest in ways_home(guests - {u}, friends)]


def first_way_home(guests, friends, found=None):
    """The first of all ways home, or None; looks for that of each smaller party once, so that 7 guests aren't long."""
    found = {} if found is None else found
    if len(guests) < 2:
        return []
    if guests not in found:
        ways = [
            ([u, v], first_way_home(guests - {u}, friends, found)) for u, v in all_steps(guests, friends)
        ]
        found[guests] = min([step + rest for step, rest in ways if rest is not None], default=None)
    return found[guests]


def is_way_home(row, guests, friends):
    if len(row) == 0:
        return len(guests) < 2
    return tuple(row[:2]) in all_steps(guests, friends) and is_way_home(row[2:], guests - {row[0]}, friends)


def is_four(row, guests, friends):
    if len(row) != 4 or len(set(row) & guests) != 4:
        return False
    a, b, c, d = row
    pairs_who_know = {pair for pair in combinations(row, 2) if know(friends, *pair)}
    return pairs_who_know == {(a, b), (b, c), (c, d)}


def all_fours(guests, friends):
    return [list(row) for row in permutations(sorted(guests), 4) if is_four(row, guests, friends)]


def all_groups(guests, friends, knowing):
    """All sets of guests of whom all know each other (knowing), or of whom no two do (not knowing)."""
    return [
        list(group) for size in range(len(guests) + 1) for group in combinations(sorted(guests), size)
        if all(know(friends, u, v) == knowing for u, v in combinations(group, 2))
    ]


def divisions(guests, friends, knowing, k, front=()):
    """All tables (knowing) or crowds (not knowing) with this k, in order, that begin with the row front."""
    order = sorted(guests)
    if len(front) == len(order):
        yield list(front)
        return
    for number in range(k):
        clashes = [v for v, other in zip(order, front) if other == number]
        if not any(know(friends, order[len(front)], v) == knowing for v in clashes):
            yield from divisions(guests, friends, knowing, k, (*front, number))


def plan_told(guests, friends):
    way = first_way_home(guests, friends)
    return [0, *min(all_fours(guests, friends))] if way is None else [1, *way]


def largest_told(guests, friends, knowing):
    if first_way_home(guests, friends) is None:
        return [-4]
    groups = all_groups(guests, friends, knowing)
    k = max(len(group) for group in groups)
    first = min(group for group in groups if len(group) == k)
    return [k, *first, *next(divisions(guests, friends, knowing, k))]


def all_parties(guests):
    """All parties of just these guests."""
    chosen = [frozenset(pair) for pair in combinations(sorted(guests), 2)]
    for number in range(2 ** len(chosen)):
        yield frozenset(guests), {pair for place, pair in enumerate(chosen) if number >> place & 1}


def small_parties():
    """All parties of at most 5 guests: of the lowest numbers, and with gaps between the numbers."""
    for size in range(6):
        yield from all_parties(range(size))
    for guests in ((6,), (1, 4), (0, 3, 6), (1, 2, 5, 6), (0, 2, 3, 5, 6)):
        yield from all_parties(guests)


def drawn_party(source, size):
    """Some party of this size: by turns one that is plain, one that was but for a pair, and one of any kind."""
    guests = sorted(source.sample(range(7), size))
    friends = set()
    for place, guest in enumerate(guests[1:], start=1):
        twin = guests[source.randrange(place)]
        friends |= {frozenset((guest, v)) for v in guests[:place] if know(friends, twin, v)}
        friends |= {frozenset((guest, twin))} if source.randrange(2) else set()
    everyone = [frozenset(pair) for pair in combinations(guests, 2)]
    changed = source.choice((0, 1, len(everyone) // 2))
    return frozenset(guests), friends ^ set(source.sample(everyone, changed))


def drawn_parties(source, number):
    for place in range(number):
        yield drawn_party(source, 4 + place % 4)
