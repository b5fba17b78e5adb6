"""What the document promises over all calls: of all parties of at most 5 guests, of drawn ones, and of histories."""

import random
import unittest
from itertools import combinations

from histories import some_changes
from lines import add, after, check_four, check_plan, crowd, drop, loners, party_of, plan
from telling import all_fours, drawn_parties, drawn_party, first_way_home, know, small_parties


def many_parties(seed):
    """All small parties, drawn ones of up to 7 guests, and those behind drawn histories, each with its calls."""
    source = random.Random(seed)
    for guests, friends in [*small_parties(), *drawn_parties(source, 300)]:
        yield party_of(guests, friends), guests, friends
    for number in range(300):
        yield some_changes(source, 5 + number % 36)


class Promises(unittest.TestCase):
    def test_a_way_home_or_four_in_a_row(self):
        for before, guests, friends in many_parties(1):
            told = after(before, plan())[0]
            row = told[1:]
            passes = after(before, check_plan(*row), check_four(*row))
            self.assertEqual(passes, [[told[0]], [1 - told[0]]], (before, friends))

    def test_not_both(self):
        for before, guests, friends in many_parties(2):
            told = after(before, plan())[0]
            self.assertEqual(told[0] == 1, first_way_home(guests, friends) is not None, (before, friends))
            self.assertEqual(told[0] == 0, len(all_fours(guests, friends)) > 0, (before, friends))

    def proof(self, told, guests, friends, knowing):
        """Holds what crowd or loners answered against its own proof; gives back how many there are."""
        k = told[0]
        group, division = told[1:1 + k], dict(zip(sorted(guests), told[1 + k:], strict=True))
        self.assertEqual(len(group), k)
        self.assertEqual(group, sorted(set(group) & guests))
        for u, v in combinations(group, 2):
            self.assertEqual(know(friends, u, v), knowing)
        for u, v in combinations(sorted(guests), 2):
            self.assertTrue(division[u] != division[v] or know(friends, u, v) != knowing)
        # The guests of the group need k different numbers, so there can't be fewer tables (crowds); no more are used.
        self.assertEqual(set(division.values()), set(range(k)))
        return k

    def test_what_is_largest_is_as_large_as_its_proof(self):
        for before, guests, friends in many_parties(3):
            told = after(before, plan(), crowd(), loners())
            if told[0][0] == 0:
                self.assertEqual(told[1:], [[-4], [-4]], (before, friends))
                continue
            tables = self.proof(told[1], guests, friends, True)
            crowds = self.proof(told[2], guests, friends, False)
            self.assertLessEqual(len(guests), tables * crowds)

    def test_plain_when_a_guest_goes(self):
        for before, guests, friends in many_parties(4):
            if after(before, plan())[0][0] == 1:
                for guest in guests:
                    told = after(before, drop(guest), plan())
                    self.assertEqual(told[1][0], 1, (before, friends, guest))

    def test_plain_when_one_comes_who_knows_the_same(self):
        for before, guests, friends in many_parties(5):
            if len(guests) == 7 or after(before, plan())[0][0] == 0:
                continue
            for guest in guests:
                same = [other for other in guests if know(friends, guest, other)]
                for knows in (same, [*same, guest]):
                    told = after(before, add(*knows), plan(), crowd(), loners())
                    self.assertEqual(told[1][0], 1, (before, friends, guest))
                    self.assertGreater(min(told[2][0], told[3][0]), 0)


class GoingHome(unittest.TestCase):
    def test_parties_that_go_home_by_their_own_plan(self):
        source = random.Random(6)
        for turn in range(200):
            guests, friends = drawn_party(source, 7)
            before = party_of(guests, friends)
            way = after(before, plan())[0]
            if way[0] == 0:
                continue
            drops = [drop(guest) for guest in way[1::2]]
            told = after(before, *[call for one in drops for call in (one, plan())])
            rest = [answer[1:] for answer in told[1::2]]
            # The first way home of those who are left is what is left of the first way home.
            self.assertEqual(rest, [way[place:] for place in range(3, 14, 2)])


if __name__ == "__main__":
    unittest.main()
