import unittest

from lines import TOP, add, after, answered, both_ways, count, crowd_of, drop, known_pairs, linked, strangers


class Drop(unittest.TestCase):
    def test_each_guest_can_go(self):
        for guest in range(7):
            self.assertEqual(after(strangers(7), drop(guest), count()), [[0], [6]])

    def test_the_guest_is_gone(self):
        told = after(crowd_of(3), drop(1), linked(0, 1), linked(1, 2), linked(0, 2), drop(1))
        self.assertEqual(told, [[0], [-3], [-3], [1], [-3]])

    def test_all_can_go(self):
        told = after(crowd_of(7), *[drop(guest) for guest in range(7)], count(), add())
        self.assertEqual(told, [[0]] * 7 + [[0], [0]])

    def test_acquaintances_go_along(self):
        for guest in range(7):
            known = known_pairs([*crowd_of(7), drop(guest), add()], range(7))
            self.assertEqual({pair for pair in known if guest in pair}, set())
            self.assertEqual(len(known), 30)

    def test_who_comes_later_knows_just_their_own_row(self):
        before = [*crowd_of(4), drop(1), add(3)]
        self.assertEqual(known_pairs(before, range(4)), both_ways((0, 2), (0, 3), (2, 3), (1, 3)))

    def test_two_who_go_do_not_know_each_other_again(self):
        before = [*crowd_of(3), drop(0), drop(1), add(), add()]
        self.assertEqual(known_pairs(before, range(3)), set())


class Refused(unittest.TestCase):
    def test_above_6(self):
        for number in (7, 8, 13, 2 ** 32, 2 ** 63, 2 ** 64 - 7, TOP):
            self.assertEqual(after(strangers(7), drop(number), count()), [[-1], [7]])

    def test_not_there(self):
        for number in range(2, 7):
            self.assertEqual(after(strangers(2), drop(number), count()), [[-3], [2]])
        self.assertEqual(answered(drop(0), drop(6)), [[-3], [-3]])

    def test_above_6_comes_before_not_there(self):
        self.assertEqual(answered(drop(6), drop(7), drop(TOP)), [[-3], [-1], [-1]])

    def test_nothing_is_changed(self):
        before = [*crowd_of(3), drop(7), drop(3), drop(TOP)]
        self.assertEqual(known_pairs(before, range(3)), both_ways((0, 1), (0, 2), (1, 2)))
        self.assertEqual(after(before, add()), [[3]])


if __name__ == "__main__":
    unittest.main()
