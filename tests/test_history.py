"""Long histories of calls, held against a second telling of the document's words."""

import random
import unittest

from lines import TOP, add, answered, count, drop, laid, link, linked

NUMBERS = (0, 1, 2, 3, 4, 5, 6, 0, 1, 2, 3, 4, 5, 6, 7, 8, 2 ** 32, TOP)


class Model:
    def __init__(self):
        self.guests = set()
        self.friends = set()

    def pair_refusal(self, u, v, on=0):
        if max(u, v) > 6 or u == v or on > 1:
            return -1
        return 0 if {u, v} <= self.guests else -3

    def add(self, knows):
        free = sorted(set(range(7)) - self.guests)
        if not free:
            return -2
        self.friends |= {frozenset((free[0], other)) for other in self.guests & set(knows)}
        self.guests.add(free[0])
        return free[0]

    def drop(self, u):
        if u > 6:
            return -1
        if u not in self.guests:
            return -3
        self.guests.remove(u)
        self.friends = {pair for pair in self.friends if u not in pair}
        return 0

    def link(self, u, v, on):
        refusal = self.pair_refusal(u, v, on)
        if refusal == 0:
            self.friends.discard(frozenset((u, v)))
            if on == 1:
                self.friends.add(frozenset((u, v)))
        return refusal

    def linked(self, u, v):
        return self.pair_refusal(u, v) or int(frozenset((u, v)) in self.friends)

    def answer(self, call):
        if call[0] == 0:
            return self.add(call[2:])
        if call[0] == 4:
            return len(self.guests)
        return (self.drop, self.link, self.linked)[call[0] - 1](*call[1:])


def some_call(source):
    number = source.choice(NUMBERS), source.choice(NUMBERS)
    chosen = source.randrange(12)
    if chosen < 4:
        return add(*[source.choice(NUMBERS) for place in range(source.randrange(9))])
    if chosen < 5:
        return drop(number[0])
    if chosen < 8:
        return link(*number, source.choice((0, 1, 1, 1, 2, TOP)))
    if chosen < 11:
        return linked(*number)
    return count()


class History(unittest.TestCase):
    def test_histories_of_60_calls(self):
        source = random.Random(7)
        for history in range(600):
            calls = [some_call(source) for place in range(60)]
            while len(laid(calls)) > 800:
                calls.pop()
            model = Model()
            self.assertEqual(answered(*calls), [[model.answer(call)] for call in calls], calls)


if __name__ == "__main__":
    unittest.main()
