import unittest

from lines import TOP, add, after, answered, count, crowd_of, drop, link, linked, strangers

ABOVE = (7, 8, 13, 2 ** 32, 2 ** 63, 2 ** 64 - 7, TOP)


class Linked(unittest.TestCase):
    def test_every_pair_in_both_orders(self):
        for u in range(7):
            for v in range(7):
                if u != v:
                    self.assertEqual(after(crowd_of(7), linked(u, v)), [[1]])
                    self.assertEqual(after(strangers(7), linked(u, v)), [[0]])

    def test_a_chain(self):
        chain = [add(), add(0), add(1), add(2)]
        told = after(chain, linked(0, 1), linked(1, 0), linked(0, 2), linked(2, 0), linked(3, 2), linked(0, 3))
        self.assertEqual(told, [[1], [1], [0], [0], [1], [0]])

    def test_asking_changes_nothing(self):
        told = after(strangers(2), linked(0, 1), linked(0, 1), link(0, 1, 1), linked(0, 1), linked(0, 1), count())
        self.assertEqual(told, [[0], [0], [0], [1], [1], [2]])


class Refused(unittest.TestCase):
    def test_a_number_above_6(self):
        for number in ABOVE:
            told = after(crowd_of(7), linked(number, 0), linked(0, number), linked(number, 8), count())
            self.assertEqual(told, [[-1], [-1], [-1], [7]])

    def test_u_is_v(self):
        for guest in range(7):
            self.assertEqual(after(crowd_of(7), linked(guest, guest)), [[-1]])
        self.assertEqual(after(crowd_of(7), linked(7, 7), linked(TOP, TOP)), [[-1], [-1]])

    def test_one_is_not_there(self):
        told = after([*crowd_of(4), drop(1)], linked(0, 1), linked(1, 0), linked(6, 0), linked(0, 6), linked(1, 5))
        self.assertEqual(told, [[-3]] * 5)

    def test_wrong_numbers_come_before_not_there(self):
        told = answered(linked(0, 1), linked(0, 7), linked(7, 0), linked(3, 3), linked(TOP, 6))
        self.assertEqual(told, [[-3], [-1], [-1], [-1], [-1]])
        self.assertEqual(after(strangers(1), linked(1, 1), linked(1, TOP)), [[-1], [-1]])


if __name__ == "__main__":
    unittest.main()
