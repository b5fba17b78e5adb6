"""Draws histories of calls, and tells a second time what the document answers them."""

from lines import TOP, add, check_four, check_plan, count, crowd, drop, laid, link, linked, loners, plan
from telling import all_fours, first_way_home, is_four, is_way_home, know, largest_told, plan_told

NUMBERS = (0, 1, 2, 3, 4, 5, 6, 0, 1, 2, 3, 4, 5, 6, 7, 8, 2 ** 32, TOP)


class Model:
    def __init__(self):
        self.guests = set()
        self.friends = set()

    def pair_refusal(self, u, v, on=0):
        if max(u, v) > 6 or u == v or on > 1:
            return -1
        return 0 if {u, v} <= self.guests else -3

    def add(self, knows):
        free = sorted(set(range(7)) - self.guests)
        if not free:
            return -2
        self.friends |= {frozenset((free[0], other)) for other in self.guests & set(knows)}
        self.guests.add(free[0])
        return free[0]

    def drop(self, u):
        if u > 6:
            return -1
        if u not in self.guests:
            return -3
        self.guests.remove(u)
        self.friends = {pair for pair in self.friends if u not in pair}
        return 0

    def link(self, u, v, on):
        refusal = self.pair_refusal(u, v, on)
        if refusal == 0:
            self.friends.discard(frozenset((u, v)))
            if on == 1:
                self.friends.add(frozenset((u, v)))
        return refusal

    def linked(self, u, v):
        return self.pair_refusal(u, v) or int(frozenset((u, v)) in self.friends)

    def one_number(self, call):
        if call[0] == 0:
            return self.add(call[2:])
        if call[0] == 4:
            return len(self.guests)
        if call[0] == 8:
            return int(is_way_home(call[2:], frozenset(self.guests), self.friends))
        if call[0] == 9:
            return int(is_four(call[2:], frozenset(self.guests), self.friends))
        return (self.drop, self.link, self.linked)[call[0] - 1](*call[1:])

    def answer(self, call):
        guests = frozenset(self.guests)
        if call[0] == 5:
            return plan_told(guests, self.friends)
        if call[0] in (6, 7):
            return largest_told(guests, self.friends, call[0] == 6)
        return [self.one_number(call)]


def some_row(source, longest):
    return [source.choice(NUMBERS) for place in range(source.randrange(longest))]


def some_coming(source, model):
    """A guest who comes: often one who knows the same as another, so that many parties are plain."""
    if not model.guests or source.randrange(3) == 0:
        return add(*some_row(source, 9))
    twin = source.choice(sorted(model.guests))
    knows = [guest for guest in model.guests if know(model.friends, twin, guest)]
    return add(*knows, *[twin] * source.randrange(2))


def some_check(source, model):
    """A row that is to be checked: what is asked for, where there is one, that with a number changed, or any other."""
    guests = frozenset(model.guests)
    chosen = source.randrange(7)
    four = source.choice(all_fours(guests, model.friends) or [some_row(source, 6)])
    way = first_way_home(guests, model.friends) or some_row(source, 14)
    if chosen < 3:
        row = list(source.choice((four, way)))
        row[:1] = row[:1] if chosen else [source.choice(NUMBERS)]
        return source.choice((check_four, check_plan))(*row)
    return check_four(*four) if chosen < 5 else check_plan(*way)


def some_change(source, model):
    pair = source.choice(NUMBERS), source.choice(NUMBERS)
    chosen = source.randrange(8)
    if chosen < 4:
        return some_coming(source, model)
    return link(*pair, source.choice((0, 1, 1, 1, 2, TOP))) if chosen < 6 else drop(pair[0])


def some_call(source, model):
    chosen = source.randrange(20)
    if chosen < 10:
        return some_change(source, model)
    if chosen < 12:
        return linked(source.choice(NUMBERS), source.choice(NUMBERS))
    if chosen < 13:
        return count()
    if chosen < 16:
        return some_check(source, model)
    return source.choice((plan, crowd, loners))()


def some_history(source):
    """Calls that fit on a line, and what the second telling answers them."""
    model = Model()
    calls, told = [], []
    while len(calls) < 60:
        call = some_call(source, model)
        if len(laid(calls)) + len(call) > 800:
            break
        calls.append(call)
        told.append(model.answer(call))
    return calls, told


def some_changes(source, number):
    """So many calls that bring guests, send them away or link them, and the party behind them."""
    model = Model()
    calls = []
    for place in range(number):
        calls.append(some_change(source, model))
        model.answer(calls[-1])
    return calls, frozenset(model.guests), model.friends
