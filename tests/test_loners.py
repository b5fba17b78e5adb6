import random
import unittest
from itertools import combinations, product

from lines import add, after, answered, count, crowd, drop, link, loners
from lines import crowd_of, friends_of, in_line, in_ring, pairs, party_of, strangers
from telling import all_groups, drawn_parties, know, largest_told, small_parties, ways_home


def loners_told(guests, friends):
    return after(party_of(guests, friends), loners())[0]


class FewGuests(unittest.TestCase):
    def test_nobody(self):
        self.assertEqual(answered(loners()), [[0]])
        self.assertEqual(answered(add(), drop(0), loners())[2], [0])

    def test_one(self):
        for guest in range(7):
            self.assertEqual(loners_told({guest}, set()), [1, guest, 0])

    def test_two(self):
        self.assertEqual(loners_told({0, 1}, set()), [2, 0, 1, 0, 1])
        self.assertEqual(loners_told({0, 1}, friends_of((0, 1))), [1, 0, 0, 0])
        self.assertEqual(loners_told({3, 6}, set()), [2, 3, 6, 0, 1])


class LonersAndCrowds(unittest.TestCase):
    def test_none_know_each_other(self):
        for size in range(8):
            self.assertEqual(after(strangers(size), loners()), [[size, *range(size), *range(size)]])

    def test_all_do(self):
        for size in range(1, 8):
            self.assertEqual(after(crowd_of(size), loners()), [[1, 0, *[0] * size]])

    def test_the_first_of_several(self):
        self.assertEqual(loners_told(range(4), in_ring(0, 1, 2, 3)), [2, 0, 2, 0, 0, 1, 1])
        self.assertEqual(loners_told(range(4), friends_of((0, 3), (1, 2))), [2, 0, 1, 0, 1, 1, 0])
        self.assertEqual(loners_told(range(4), friends_of((0, 1))), [3, 0, 2, 3, 0, 0, 1, 2])

    def test_more_loners_go_before_lower_ones(self):
        friends = friends_of(*product((0, 1), (2, 3, 4)))
        self.assertEqual(loners_told(range(5), friends), [3, 2, 3, 4, 0, 1, 0, 1, 2])

    def test_three_crowds_of_seven(self):
        friends = friends_of(*[(u, v) for u in range(7) for v in range(u) if u % 3 == v % 3])
        self.assertEqual(loners_told(range(7), friends), [3, 0, 1, 2, 0, 1, 2, 0, 1, 2, 0])

    def test_gaps_in_the_numbers(self):
        self.assertEqual(loners_told({1, 4, 6}, in_line(1, 6, 4)), [2, 1, 4, 0, 1, 0])
        told = after(strangers(7), drop(0), drop(3), loners())
        self.assertEqual(told[2], [5, 1, 2, 4, 5, 6, 0, 1, 2, 3, 4])

    def test_beside_the_crowd(self):
        before = party_of(range(5), friends_of((0, 1), (0, 2), (1, 2), (3, 4)))
        self.assertEqual(after(before, crowd()), [[3, 0, 1, 2, 0, 1, 2, 0, 1]])
        self.assertEqual(after(before, loners()), [[2, 0, 3, 0, 0, 0, 1, 1]])


class Refused(unittest.TestCase):
    def test_not_plain(self):
        self.assertEqual(loners_told(range(4), in_line(0, 1, 2, 3)), [-4])
        self.assertEqual(loners_told({1, 3, 4, 6}, in_line(4, 6, 1, 3)), [-4])
        for size in (5, 6, 7):
            self.assertEqual(loners_told(range(size), in_ring(*range(size))), [-4])
            self.assertEqual(loners_told(range(size), in_line(0, 1, 2, 3)), [-4])

    def test_plain_again(self):
        before = party_of(range(4), in_line(0, 1, 2, 3))
        self.assertEqual(after(before, loners(), link(0, 3, 1), loners()), [[-4], [0], [2, 0, 2, 0, 0, 1, 1]])
        self.assertEqual(after(before, loners(), drop(0), loners()), [[-4], [0], [2, 1, 3, 0, 0, 1]])

    def test_changes_nothing(self):
        for guests, friends in ((range(4), in_line(0, 1, 2, 3)), ({1, 2, 4, 6}, in_ring(1, 4, 2, 6))):
            before = party_of(guests, friends)
            asked = [*pairs(guests), count()]
            told = after(before, loners(), loners(), *asked)
            self.assertEqual(told[0], told[1])
            self.assertEqual(told[2:], after(before, *asked))


def first_crowds(guests, friends, k):
    """Looks at all rows with a number below k for each guest."""
    order = sorted(guests)
    apart = [(order.index(u), order.index(v)) for u, v in combinations(order, 2) if not know(friends, u, v)]
    return min(row for row in product(range(k), repeat=len(order)) if all(row[u] != row[v] for u, v in apart))


class AllOfThem(unittest.TestCase):
    def test_small_parties(self):
        for guests, friends in small_parties():
            expected = [-4]
            if ways_home(guests, friends):
                groups = all_groups(guests, friends, False)
                k = max(len(row) for row in groups)
                first = min(row for row in groups if len(row) == k)
                expected = [k, *first, *first_crowds(guests, friends, k)]
            self.assertEqual(loners_told(guests, friends), expected, (guests, friends))

    def test_drawn_parties_of_4_to_7(self):
        seen = []
        for guests, friends in drawn_parties(random.Random(7), 800):
            told = loners_told(guests, friends)
            self.assertEqual(told, largest_told(guests, friends, False), (guests, friends))
            seen.append((len(guests), told == [-4]))
        for size in range(4, 8):
            self.assertGreater(min(seen.count((size, False)), seen.count((size, True))), 10)


if __name__ == "__main__":
    unittest.main()
