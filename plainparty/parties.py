"""A party whose guests and acquaintances come and go, and the calls made on it."""

GUESTS = 7

WRONG_NUMBER = -1
ALL_TAKEN = -2
NOT_THERE = -3
NOT_PLAIN = -4

ADD = 0
DROP = 1
LINK = 2
LINKED = 3
COUNT = 4
PLAN = 5
CROWD = 6
LONERS = 7
CHECK_PLAN = 8
CHECK_FOUR = 9

# By a call's number: how many whole numbers it has, and how many rows behind them.
NUMBERS_OF_CALL = (0, 1, 3, 2, 0, 0, 0, 0, 0, 0)
ROWS_OF_CALL = (1, 0, 0, 0, 0, 0, 0, 0, 1, 1)


class Party:
    """Who is there, and who know each other. Who isn't there is known by nobody."""

    def __init__(self):
        self.there = [False] * GUESTS
        self.known = [[False] * GUESTS for guest in range(GUESTS)]


def is_there(party, number):
    return number < GUESTS and party.there[number]


def guests_there(party):
    return [guest for guest in range(GUESTS) if party.there[guest]]


def set_known(party, u, v, value):
    party.known[u][v] = value
    party.known[v][u] = value


def lowest_free(taken):
    """The lowest number that isn't in the row."""
    number = 0
    while number in taken:
        number += 1
    return number


def add_guest(party, knows):
    guest = lowest_free(guests_there(party))
    if guest == GUESTS:
        return [ALL_TAKEN]
    # The guest comes in only behind this loop, so that their own number in the row is passed over.
    for number in knows:
        if is_there(party, number):
            set_known(party, guest, number, True)
    party.there[guest] = True
    return [guest]


def drop_guest(party, guest):
    if guest >= GUESTS:
        return [WRONG_NUMBER]
    if not party.there[guest]:
        return [NOT_THERE]
    for other in range(GUESTS):
        set_known(party, guest, other, False)
    party.there[guest] = False
    return [0]


def pair_refusal(party, u, v):
    """Why nothing can be said of u and v as a pair: a refusal, or 0 if there is none."""
    if u >= GUESTS or v >= GUESTS or u == v:
        return WRONG_NUMBER
    if not party.there[u] or not party.there[v]:
        return NOT_THERE
    return 0


def link_guests(party, u, v, on):
    # A wrong number is told before a guest who isn't there, so this stands first.
    if on > 1:
        return [WRONG_NUMBER]
    refusal = pair_refusal(party, u, v)
    if refusal < 0:
        return [refusal]
    set_known(party, u, v, on == 1)
    return [0]


def linked_guests(party, u, v):
    refusal = pair_refusal(party, u, v)
    if refusal < 0:
        return [refusal]
    return [1 if party.known[u][v] else 0]


def count_guests(party):
    return [len(guests_there(party))]


def alike(party, guests, u, v):
    """If every third of the guests knows both u and v or neither."""
    for third in guests:
        if third != u and third != v and party.known[third][u] != party.known[third][v]:
            return False
    return True


def is_step(party, left, goes, stays):
    """If this can be the next step of a way home, where those in the row left are still there."""
    return goes in left and stays in left and goes != stays and alike(party, left, goes, stays)


def first_step(party, left):
    for goes in left:
        for stays in left:
            if is_step(party, left, goes, stays):
                return [goes, stays]
    return None


def first_way_home(party):
    """The first way home as a row, or None if the party isn't plain."""
    left = guests_there(party)
    steps = []
    # A plain party stays plain whoever goes, so a first step never has to be taken back.
    while len(left) > 1:
        step = first_step(party, left)
        if step is None:
            return None
        steps.extend(step)
        left.remove(step[0])
    return steps


def in_a_row(party, a, b, c, d):
    """If these, who are there, are four in a row."""
    # They are four different guests then: of any two of them, one of the others knows just one.
    neighbours = party.known[a][b] and party.known[b][c] and party.known[c][d]
    others = party.known[a][c] or party.known[b][d] or party.known[a][d]
    return neighbours and not others


def first_four(party):
    guests = guests_there(party)
    for a in guests:
        for b in guests:
            for c in guests:
                for d in guests:
                    if in_a_row(party, a, b, c, d):
                        return [a, b, c, d]
    return None


def plan_guests(party):
    steps = first_way_home(party)
    if steps is None:
        # A party without a way home has four in a row, so this is never None.
        return [0] + first_four(party)
    return [1] + steps


def joins(party, group, guest, knowing):
    """If the guest knows all of the group (knowing is True), or none of them (False)."""
    return all([party.known[guest][other] == knowing for other in group])


def all_groups(party, knowing):
    """All crowds (knowing is True) or all loners (False), each as a rising row."""
    groups = [[]]
    for guest in guests_there(party):
        larger = [group + [guest] for group in groups if joins(party, group, guest, knowing)]
        groups = groups + larger
    return groups


def first_largest(groups):
    size = max([len(group) for group in groups])
    return min([group for group in groups if len(group) == size])


def first_division(party, knowing):
    """The first tables (knowing is True) or crowds (False) of a plain party, as few as there can be."""
    guests = guests_there(party)
    division = []
    # Taking the lowest number that fits is enough: only where there are four in a row can it lead to a number
    # that isn't below the size of the largest crowd (or loners), in whatever order the guests are taken.
    for guest in guests:
        taken = [number for other, number in zip(guests, division) if party.known[guest][other] == knowing]
        division.append(lowest_free(taken))
    return division


def largest_and_division(party, knowing):
    if first_way_home(party) is None:
        return [NOT_PLAIN]
    largest = first_largest(all_groups(party, knowing))
    return [len(largest)] + largest + first_division(party, knowing)


def check_plan(party, steps):
    left = guests_there(party)
    if len(steps) != 2 * max(len(left) - 1, 0):
        return [0]
    for place in range(0, len(steps), 2):
        if not is_step(party, left, steps[place], steps[place + 1]):
            return [0]
        left.remove(steps[place])
    return [1]


def check_four(party, four):
    if len(four) != 4 or not all([is_there(party, number) for number in four]):
        return [0]
    return [1 if in_a_row(party, four[0], four[1], four[2], four[3]) else 0]


def call_end(calls, start):
    """Where the call that begins at start ends: the place behind its last number."""
    end = start + 1 + NUMBERS_OF_CALL[calls[start]]
    for row in range(ROWS_OF_CALL[calls[start]]):
        end += 1 + calls[end]
    return end


def answer_call(party, call):
    """Carries out one call, given with its number in front, and gives what is answered."""
    if call[0] == ADD:
        return add_guest(party, call[2:])
    if call[0] == DROP:
        return drop_guest(party, call[1])
    if call[0] == LINK:
        return link_guests(party, call[1], call[2], call[3])
    if call[0] == LINKED:
        return linked_guests(party, call[1], call[2])
    if call[0] == COUNT:
        return count_guests(party)
    if call[0] == PLAN:
        return plan_guests(party)
    if call[0] == CROWD:
        return largest_and_division(party, True)
    if call[0] == LONERS:
        return largest_and_division(party, False)
    if call[0] == CHECK_PLAN:
        return check_plan(party, call[2:])
    return check_four(party, call[2:])


def answers(calls):
    """What the calls on a new party answer, one behind another, each with how many numbers it has before it."""
    party = Party()
    told = []
    start = 0
    while start < len(calls):
        end = call_end(calls, start)
        answer = answer_call(party, calls[start:end])
        told.append(len(answer))
        told.extend(answer)
        start = end
    return told
