import random
import unittest
from itertools import permutations, product

from lines import TOP, add, after, after_each, answered, check_four, count, drop, link, plan
from lines import crowd_of, friends_of, in_line, in_ring, pairs, party_of, strangers
from telling import all_fours, all_parties, drawn_parties, is_four


def checked(guests, friends, *rows):
    """What check_four answers of each of these rows."""
    told = after_each(party_of(guests, friends), [check_four(*row) for row in rows])
    return [number for answer in told for number in answer]


class FoursInARow(unittest.TestCase):
    def test_both_directions(self):
        self.assertEqual(checked(range(4), in_line(0, 1, 2, 3), (0, 1, 2, 3), (3, 2, 1, 0)), [1, 1])
        self.assertEqual(checked({1, 3, 4, 6}, in_line(4, 6, 1, 3), (4, 6, 1, 3), (3, 1, 6, 4)), [1, 1])

    def test_every_order_of_four(self):
        for row in permutations(range(4)):
            expected = [int(other in (row, row[::-1])) for other in permutations(range(4))]
            self.assertEqual(checked(range(4), in_line(*row), *permutations(range(4))), expected)

    def test_each_in_a_ring(self):
        for size in (5, 6, 7):
            for first in range(size):
                row = [(first + place) % size for place in range(4)]
                self.assertEqual(checked(range(size), in_ring(*range(size)), row, row[::-1]), [1, 1])
        self.assertEqual(checked(range(4), in_ring(0, 1, 2, 3), *permutations(range(4))), [0] * 24)

    def test_every_four_of_every_party_of_four(self):
        for guests, friends in all_parties(range(4)):
            expected = [int(is_four(row, guests, friends)) for row in permutations(range(4))]
            self.assertEqual(checked(guests, friends, *permutations(range(4))), expected, friends)

    def test_every_row_of_four_numbers(self):
        rows = list(product(range(8), repeat=4))
        for guests, friends in (
            (range(7), in_line(3, 1, 6, 0, 4, 2, 5)), ({0, 1, 2, 4, 6}, in_ring(0, 4, 1, 6, 2)), (range(7), set()),
        ):
            fours = {tuple(row) for row in all_fours(frozenset(guests), friends)}
            self.assertEqual(checked(guests, friends, *rows), [int(row in fours) for row in rows])

    def test_what_plan_gives(self):
        seen = 0
        for guests, friends in drawn_parties(random.Random(10), 300):
            told = after(party_of(guests, friends), plan())[0]
            if told[0] == 0:
                self.assertEqual(checked(guests, friends, told[1:], told[:0:-1]), [1, 1], (guests, friends))
                seen += 1
        self.assertGreater(seen, 50)


class WrongRows(unittest.TestCase):
    def test_lengths(self):
        rows = [(), (0,), (0, 1, 2), (1, 2, 3), (0, 1, 2, 3, 4), (0, 1, 2, 3, 3), (0, 1, 2, 3, TOP), (0, 0, 1, 2, 3)]
        self.assertEqual(checked(range(5), in_line(0, 1, 2, 3, 4), *rows), [0] * 8)
        for size in range(8):
            self.assertEqual(checked(range(size), in_line(*range(size)), ()), [0])

    def test_several_hundred_numbers(self):
        before = party_of(range(7), in_line(*range(7)))
        for row in ([0, 1, 2, 3] * 180, [TOP] * 700, list(range(7)) * 100, [0, 1, 2, 3, *[7] * 700]):
            self.assertEqual(after(before, check_four(*row), count()), [[0], [7]])
        self.assertEqual(answered(check_four(*[TOP] * 790)), [[0]])

    def test_a_guest_twice(self):
        rows = [
            (0, 1, 2, 0), (0, 1, 0, 1), (0, 1, 1, 2), (0, 0, 1, 2), (1, 2, 3, 3), (0, 1, 2, 1), (1, 0, 1, 2),
            (2, 2, 2, 2), (0, 1, 1, 0),
        ]
        for friends in (in_line(0, 1, 2, 3), in_ring(0, 1, 2, 3), in_ring(0, 1, 2), set()):
            self.assertEqual(checked(range(4), friends, *rows), [0] * 9)

    def test_one_who_is_not_there(self):
        self.assertEqual(checked(range(3), in_line(0, 1, 2), (0, 1, 2, 3), (3, 0, 1, 2), (0, 3, 1, 2)), [0] * 3)
        self.assertEqual(answered(check_four(0, 1, 2, 3)), [[0]])
        row = check_four(0, 1, 2, 3)
        for guest in range(4):
            self.assertEqual(after(party_of(range(5), in_line(0, 1, 2, 3)), row, drop(guest), row), [[1], [0], [0]])

    def test_numbers_above_6(self):
        for far in (7, 8, 10, 2 ** 32, 2 ** 63, TOP - 1, TOP):
            rows = [(far, 1, 2, 3), (0, far, 2, 3), (0, 1, far, 3), (0, 1, 2, far), (far, far, far, far)]
            self.assertEqual(checked(range(4), in_line(0, 1, 2, 3), *rows), [0] * 5)
            self.assertEqual(checked(range(7), in_line(*range(7)), *rows, (4, 5, 6, far)), [0] * 6)

    def test_an_acquaintance_too_few_or_too_many(self):
        line = [(0, 1), (1, 2), (2, 3)]
        for pair in line:
            self.assertEqual(checked(range(4), friends_of(*line) - friends_of(pair), (0, 1, 2, 3)), [0])
        for pair in ((0, 2), (1, 3), (0, 3)):
            self.assertEqual(checked(range(4), friends_of(*line, pair), (0, 1, 2, 3)), [0])
        self.assertEqual(after(crowd_of(4), check_four(0, 1, 2, 3)), [[0]])
        self.assertEqual(after(strangers(4), check_four(0, 1, 2, 3)), [[0]])


class Changes(unittest.TestCase):
    def test_after_links_and_drops(self):
        row = check_four(0, 1, 2, 3)
        before = party_of(range(4), in_line(0, 1, 2, 3))
        told = after(before, link(0, 3, 1), row, link(3, 0, 0), row, drop(3), add(2), row)
        self.assertEqual(told, [[0], [0], [0], [1], [0], [3], [1]])

    def test_changes_nothing(self):
        before = party_of({1, 2, 4, 6}, in_line(1, 4, 2, 6))
        asked = [*pairs({1, 2, 4, 6}), count(), plan()]
        rows = [check_four(1, 4, 2, 6), check_four(1, 2, 4, 6), check_four(1, 2), check_four(3, 1, TOP, 2)]
        told = after(before, *rows, *rows, *asked)
        self.assertEqual(told[:8], [[1], [0], [0], [0]] * 2)
        self.assertEqual(told[8:], after(before, *asked))


if __name__ == "__main__":
    unittest.main()
