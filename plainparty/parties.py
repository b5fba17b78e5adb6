"""A party whose guests and acquaintances come and go, and the calls made on it."""

GUESTS = 7

WRONG_NUMBER = -1
ALL_TAKEN = -2
NOT_THERE = -3

ADD = 0
DROP = 1
LINK = 2
LINKED = 3
COUNT = 4

# By a call's number: how many whole numbers it has, and how many rows behind them.
NUMBERS_OF_CALL = (0, 1, 3, 2, 0)
ROWS_OF_CALL = (1, 0, 0, 0, 0)


class Party:
    """Who is there, and who know each other. Who isn't there is known by nobody."""

    def __init__(self):
        self.there = [False] * GUESTS
        self.known = [[False] * GUESTS for guest in range(GUESTS)]


def is_there(party, number):
    return number < GUESTS and party.there[number]


def set_known(party, u, v, value):
    party.known[u][v] = value
    party.known[v][u] = value


def lowest_free(party):
    """The lowest number that is free, or GUESTS if none is."""
    guest = 0
    while guest < GUESTS and party.there[guest]:
        guest += 1
    return guest


def add_guest(party, knows):
    guest = lowest_free(party)
    if guest == GUESTS:
        return [ALL_TAKEN]
    # The guest comes in only behind this loop, so that their own number in the row is passed over.
    for number in knows:
        if is_there(party, number):
            set_known(party, guest, number, True)
    party.there[guest] = True
    return [guest]


def drop_guest(party, guest):
    if guest >= GUESTS:
        return [WRONG_NUMBER]
    if not party.there[guest]:
        return [NOT_THERE]
    for other in range(GUESTS):
        set_known(party, guest, other, False)
    party.there[guest] = False
    return [0]


def pair_refusal(party, u, v):
    """Why nothing can be said of u and v as a pair: a refusal, or 0 if there is none."""
    if u >= GUESTS or v >= GUESTS or u == v:
        return WRONG_NUMBER
    if not party.there[u] or not party.there[v]:
        return NOT_THERE
    return 0


def link_guests(party, u, v, on):
    # A wrong number is told before a guest who isn't there, so this stands first.
    if on > 1:
        return [WRONG_NUMBER]
    refusal = pair_refusal(party, u, v)
    if refusal < 0:
        return [refusal]
    set_known(party, u, v, on == 1)
    return [0]


def linked_guests(party, u, v):
    refusal = pair_refusal(party, u, v)
    if refusal < 0:
        return [refusal]
    return [1 if party.known[u][v] else 0]


def count_guests(party):
    return [party.there.count(True)]


def call_end(calls, start):
    """Where the call that begins at start ends: the place behind its last number."""
    end = start + 1 + NUMBERS_OF_CALL[calls[start]]
    for row in range(ROWS_OF_CALL[calls[start]]):
        end += 1 + calls[end]
    return end


def answer_call(party, call):
    """Carries out one call, given with its number in front, and gives what is answered."""
    if call[0] == ADD:
        return add_guest(party, call[2:])
    if call[0] == DROP:
        return drop_guest(party, call[1])
    if call[0] == LINK:
        return link_guests(party, call[1], call[2], call[3])
    if call[0] == LINKED:
        return linked_guests(party, call[1], call[2])
    return count_guests(party)


def answers(calls):
    """What the calls on a new party answer, one behind another, each with how many numbers it has before it."""
    party = Party()
    told = []
    start = 0
    while start < len(calls):
        end = call_end(calls, start)
        answer = answer_call(party, calls[start:end])
        told.append(len(answer))
        told.extend(answer)
        start = end
    return told
