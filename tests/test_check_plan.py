import random
import unittest
from itertools import product

from lines import TOP, add, after, after_each, answered, check_plan, count, drop, link, plan
from lines import crowd_of, friends_of, in_line, in_ring, pairs, party_of, strangers
from telling import all_parties, drawn_parties, is_way_home, small_parties, ways_home

STAR = friends_of((0, 1), (0, 2), (0, 3))


def checked(guests, friends, *rows):
    """What check_plan answers of each of these rows."""
    told = after_each(party_of(guests, friends), [check_plan(*row) for row in rows])
    return [number for answer in told for number in answer]


class WaysHome(unittest.TestCase):
    def test_all_ways_home_of_small_parties(self):
        for guests, friends in small_parties():
            ways = ways_home(guests, friends)
            chosen = ways[::1 + len(ways) // 40]
            if chosen:
                self.assertEqual(checked(guests, friends, *chosen), [1] * len(chosen), (guests, friends))

    def test_what_plan_gives(self):
        for guests, friends in drawn_parties(random.Random(8), 300):
            told = after(party_of(guests, friends), plan())[0]
            self.assertEqual(checked(guests, friends, told[1:]), [told[0]], (guests, friends))

    def test_others_than_the_first(self):
        rows = [(3, 1, 1, 2, 2, 0), (1, 2, 2, 3, 0, 3), (2, 1, 3, 1, 1, 0)]
        self.assertEqual(checked(range(4), STAR, *rows), [1, 1, 1])
        rows = [(6, 0, 5, 0, 4, 0, 3, 0, 2, 0, 1, 0), (0, 6, 5, 6, 1, 6, 4, 2, 6, 2, 3, 2)]
        self.assertEqual(after(crowd_of(7), *[check_plan(*row) for row in rows]), [[1], [1]])
        self.assertEqual(after(strangers(7), *[check_plan(*row) for row in rows]), [[1], [1]])

    def test_every_row_for_three_guests(self):
        rows = list(product(range(4), repeat=4))
        for guests, friends in all_parties(range(3)):
            expected = [int(row in map(tuple, ways_home(guests, friends))) for row in rows]
            self.assertEqual(checked(guests, friends, *rows), expected, friends)

    def test_every_row_for_four_guests(self):
        rows = list(product((0, 2, 3, 5), repeat=6))
        guests = frozenset((0, 2, 3, 5))
        for friends in (set(), in_line(0, 2, 3, 5), in_ring(0, 3, 2, 5), friends_of((0, 5)), in_ring(2, 3, 5)):
            ways = {tuple(way) for way in ways_home(guests, friends)}
            self.assertEqual(checked(guests, friends, *rows), [int(row in ways) for row in rows], friends)


class Lengths(unittest.TestCase):
    def test_the_empty_row(self):
        self.assertEqual(answered(check_plan()), [[1]])
        self.assertEqual(answered(add(), check_plan())[1], [1])
        for size in range(2, 8):
            self.assertEqual(after(crowd_of(size), check_plan()), [[0]])
            self.assertEqual(after(strangers(size), check_plan()), [[0]])

    def test_nobody_and_one_have_no_step(self):
        rows = [(0,), (0, 0), (0, 1), (1, 0), (TOP, TOP), (0, 1, 1, 0)]
        self.assertEqual(checked(set(), set(), *rows), [0] * 6)
        self.assertEqual(checked({0}, set(), *rows), [0] * 6)
        self.assertEqual(checked({5}, set(), (), (5,), (5, 5), (5, 0)), [1, 0, 0, 0])

    def test_odd_rows(self):
        self.assertEqual(checked(range(2), set(), (0,), (0, 1, 1), (0, 1, 0)), [0, 0, 0])
        self.assertEqual(checked(range(4), STAR, (1, 2, 2, 3, 0), (1, 2, 2, 3, 0, 3, 3)), [0, 0])

    def test_a_step_too_few_or_too_many(self):
        self.assertEqual(checked(range(4), STAR, (1, 2, 2, 3), (1, 2)), [0, 0])
        self.assertEqual(checked(range(4), STAR, (1, 2, 2, 3, 0, 3, 3, 3), (1, 2, 2, 3, 0, 3, 3, 0)), [0, 0])
        self.assertEqual(checked(range(4), STAR, (1, 2, 2, 3, 0, 3)), [1])

    def test_several_hundred_numbers(self):
        for size in (0, 1, 2, 7):
            for row in ([0, 1] * 350, [TOP] * 700, [0] * 701, list(range(7)) * 100):
                self.assertEqual(after(strangers(size), check_plan(*row), count()), [[0], [size]])
        self.assertEqual(answered(check_plan(*[TOP] * 790)), [[0]])


class WrongGuests(unittest.TestCase):
    def test_one_who_has_gone_already(self):
        rows = [(1, 2, 1, 3, 0, 3), (1, 2, 3, 1, 0, 3), (1, 2, 2, 3, 2, 3), (1, 2, 2, 3, 0, 1)]
        self.assertEqual(checked(range(4), STAR, *rows), [0] * 4)
        self.assertEqual(checked(range(3), set(), (0, 1, 0, 1), (0, 1, 1, 0), (0, 1, 1, 2)), [0, 0, 1])

    def test_one_who_is_not_there(self):
        self.assertEqual(checked(range(2), set(), (0, 2), (2, 0), (6, 5), (0, 6)), [0] * 4)
        self.assertEqual(checked({0, 2}, set(), (0, 1), (1, 2), (0, 2)), [0, 0, 1])
        told = after(crowd_of(3), check_plan(0, 1, 1, 2), drop(1), check_plan(0, 1), check_plan(0, 2))
        self.assertEqual(told, [[1], [0], [0], [1]])

    def test_numbers_above_6(self):
        for far in (7, 8, 2 ** 32, 2 ** 63, TOP - 1, TOP):
            rows = [(far, 0), (0, far), (far, far), (far, far - 1)]
            self.assertEqual(checked(range(2), set(), *rows), [0] * 4)
            self.assertEqual(checked(range(3), set(), (0, 1, far, 2), (0, 1, 2, far), (far, 1, 1, 2)), [0] * 3)

    def test_the_same_guest_twice_in_a_step(self):
        self.assertEqual(checked(range(2), set(), (0, 0), (1, 1)), [0, 0])
        self.assertEqual(checked(range(3), set(), (0, 0, 1, 2), (0, 1, 1, 1), (0, 1, 2, 2)), [0] * 3)

    def test_two_who_are_not_alike(self):
        self.assertEqual(checked(range(3), in_line(0, 1, 2), (0, 1, 1, 2), (0, 2, 1, 2), (1, 0, 0, 2)), [0, 1, 0])
        self.assertEqual(checked(range(4), in_line(0, 1, 2, 3), (0, 1, 1, 2, 2, 3), (0, 3, 1, 2, 2, 3)), [0, 0])

    def test_alike_only_among_those_who_are_left(self):
        friends = friends_of((0, 1), (1, 2), (1, 3), (2, 3))
        rows = [(0, 2, 2, 3, 1, 3), (2, 3, 0, 3, 1, 3), (3, 2, 2, 0, 0, 1)]
        self.assertEqual(checked(range(4), friends, *rows), [0, 1, 1])


class Changes(unittest.TestCase):
    def test_after_a_link_and_a_drop(self):
        row = check_plan(0, 1, 1, 2)
        told = after(crowd_of(3), row, link(0, 2, 0), row, link(0, 2, 1), row, drop(2), row, add(0, 1), row)
        self.assertEqual(told, [[1], [0], [0], [0], [1], [0], [0], [2], [1]])

    def test_changes_nothing(self):
        before = party_of({1, 2, 4, 6}, in_ring(1, 4, 2, 6))
        asked = [*pairs({1, 2, 4, 6}), count(), plan()]
        rows = [check_plan(1, 2, 2, 4), check_plan(1, 2, 4, 6, 2, 6), check_plan(1, 2, 2, 4, 4, 6), check_plan(3, TOP)]
        told = after(before, *rows, *rows, *asked)
        self.assertEqual(told[:8], [[0], [1], [0], [0]] * 2)
        self.assertEqual(told[8:], after(before, *asked))


class Drawn(unittest.TestCase):
    def test_ways_home_with_a_number_changed(self):
        source = random.Random(9)
        seen = []
        for guests, friends in drawn_parties(source, 400):
            row = after(party_of(guests, friends), plan())[0][1:]
            rows = [list(row) for place in range(12)]
            for other in rows:
                other[source.randrange(len(row))] = source.choice((*guests, *range(8)))
            expected = [int(is_way_home(other, guests, friends)) for other in rows]
            self.assertEqual(checked(guests, friends, *rows), expected, (guests, friends, rows))
            seen.extend(expected)
        self.assertGreater(min(seen.count(0), seen.count(1)), 300)


if __name__ == "__main__":
    unittest.main()
