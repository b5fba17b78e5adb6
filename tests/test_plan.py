import random
import unittest

from lines import add, after, answered, count, drop, link, plan
from lines import crowd_of, friends_of, in_line, in_ring, pairs, party_of, strangers
from telling import all_fours, drawn_parties, plan_told, small_parties, ways_home


def plan_of(guests, friends):
    return after(party_of(guests, friends), plan())[0]


class FewGuests(unittest.TestCase):
    def test_nobody(self):
        self.assertEqual(answered(plan()), [[1]])
        self.assertEqual(answered(add(), drop(0), plan()), [[0], [0], [1]])

    def test_one(self):
        for guest in range(7):
            self.assertEqual(plan_of({guest}, set()), [1])

    def test_two(self):
        self.assertEqual(plan_of({0, 1}, set()), [1, 0, 1])
        self.assertEqual(plan_of({0, 1}, friends_of((0, 1))), [1, 0, 1])
        self.assertEqual(plan_of({2, 5}, set()), [1, 2, 5])
        self.assertEqual(plan_of({2, 5}, friends_of((2, 5))), [1, 2, 5])

    def test_three(self):
        self.assertEqual(plan_of({0, 1, 2}, in_line(0, 1, 2)), [1, 0, 2, 1, 2])
        self.assertEqual(plan_of({0, 1, 2}, in_line(1, 0, 2)), [1, 1, 2, 0, 2])
        self.assertEqual(plan_of({0, 1, 2}, friends_of((1, 2))), [1, 1, 2, 0, 2])
        self.assertEqual(plan_of({0, 1, 2}, in_ring(0, 1, 2)), [1, 0, 1, 1, 2])


class WaysHome(unittest.TestCase):
    def test_all_or_none_know_each_other(self):
        for size in range(2, 8):
            steps = [number for goes in range(size - 1) for number in (goes, goes + 1)]
            self.assertEqual(after(crowd_of(size), plan()), [[1, *steps]])
            self.assertEqual(after(strangers(size), plan()), [[1, *steps]])

    def test_two_who_do_not_come_first(self):
        friends = in_ring(0, 1, 2, 3)
        self.assertEqual(plan_of(range(4), friends), [1, 0, 2, 1, 3, 2, 3])

    def test_who_stays_is_the_lowest_too(self):
        self.assertEqual(plan_of(range(4), friends_of((0, 3), (1, 2))), [1, 0, 3, 1, 2, 2, 3])

    def test_alike_only_among_those_who_are_left(self):
        self.assertEqual(plan_of(range(4), friends_of((0, 1), (1, 2), (1, 3), (2, 3))), [1, 2, 3, 0, 3, 1, 3])


class FoursInARow(unittest.TestCase):
    def test_four_guests(self):
        self.assertEqual(plan_of(range(4), in_line(0, 1, 2, 3)), [0, 0, 1, 2, 3])
        self.assertEqual(plan_of(range(4), in_line(2, 0, 3, 1)), [0, 1, 3, 0, 2])
        self.assertEqual(plan_of(range(4), in_line(3, 0, 1, 2)), [0, 2, 1, 0, 3])

    def test_rings(self):
        for size in (5, 6, 7):
            self.assertEqual(plan_of(range(size), in_ring(*range(size))), [0, 0, 1, 2, 3])
        self.assertEqual(plan_of(range(5), in_ring(0, 3, 1, 4, 2)), [0, 0, 2, 4, 1])

    def test_gaps_in_the_numbers(self):
        self.assertEqual(plan_of({1, 3, 4, 6}, in_line(4, 6, 1, 3)), [0, 3, 1, 6, 4])
        told = after(party_of(range(7), in_line(0, 1, 2, 3, 4, 5, 6)), plan(), drop(2), plan(), drop(1), plan())
        self.assertEqual(told[0], [0, 0, 1, 2, 3])
        self.assertEqual(told[2], [0, 3, 4, 5, 6])
        self.assertEqual(told[4], [0, 3, 4, 5, 6])

    def test_beside_guests_who_are_alike(self):
        friends = in_line(3, 4, 5, 6) | friends_of((0, 1), (0, 2), (1, 2))
        self.assertEqual(plan_of(range(7), friends), [0, 3, 4, 5, 6])


class Changes(unittest.TestCase):
    def test_plain_by_a_drop(self):
        for guest in range(4):
            told = after(party_of(range(4), in_line(0, 1, 2, 3)), plan(), drop(guest), plan())
            self.assertEqual([answer[0] for answer in told], [0, 0, 1])
        told = after(party_of(range(4), in_line(0, 1, 2, 3)), drop(1), plan())
        self.assertEqual(told[1], [1, 2, 3, 0, 3])

    def test_plain_by_a_link(self):
        before = party_of(range(4), in_line(0, 1, 2, 3))
        self.assertEqual(after(before, plan(), link(0, 3, 1), plan())[2], [1, 0, 2, 1, 3, 2, 3])
        self.assertEqual(after(before, plan(), link(1, 2, 0), plan())[2], [1, 0, 1, 2, 3, 1, 3])

    def test_not_plain_by_a_link_or_a_guest(self):
        before = party_of(range(4), friends_of((0, 1), (2, 3)))
        told = after(before, plan(), link(1, 2, 1), plan(), link(1, 2, 0), plan())
        self.assertEqual([answer[0] for answer in told], [1, 0, 0, 0, 1])
        told = after(party_of(range(3), in_line(0, 1, 2)), plan(), add(2), plan(), drop(3), add(), plan())
        self.assertEqual([told[0][0], told[2], told[5][0]], [1, [0, 0, 1, 2, 3], 1])

    def test_a_guest_who_comes_again_knows_nobody_from_before(self):
        before = party_of(range(4), in_line(0, 1, 2, 3))
        told = after(before, drop(1), add(), plan(), drop(1), add(0, 2), plan())
        self.assertEqual([told[2][0], told[5]], [1, [0, 0, 1, 2, 3]])

    def test_changes_nothing(self):
        for guests, friends in ((range(5), in_ring(0, 1, 2, 3, 4)), ({1, 2, 4, 6}, in_ring(1, 4, 2, 6))):
            before = party_of(guests, friends)
            asked = [*pairs(guests), count()]
            told = after(before, plan(), plan(), *asked)
            self.assertEqual(told[0], told[1])
            self.assertEqual(told[2:], after(before, *asked))


class AllOfThem(unittest.TestCase):
    def test_small_parties(self):
        for guests, friends in small_parties():
            ways = ways_home(guests, friends)
            expected = [1, *min(ways)] if ways else [0, *min(all_fours(guests, friends))]
            self.assertEqual(plan_of(guests, friends), expected, (guests, friends))

    def test_drawn_parties_of_4_to_7(self):
        seen = []
        for guests, friends in drawn_parties(random.Random(5), 800):
            told = plan_of(guests, friends)
            self.assertEqual(told, plan_told(guests, friends), (guests, friends))
            seen.append((len(guests), told[0]))
        for size in range(4, 8):
            self.assertGreater(min(seen.count((size, 0)), seen.count((size, 1))), 10)


if __name__ == "__main__":
    unittest.main()
