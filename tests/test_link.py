import unittest

from lines import TOP, add, after, answered, both_ways, count, crowd_of, drop, known_pairs, link, strangers

ABOVE = (7, 8, 13, 2 ** 32, 2 ** 63, 2 ** 64 - 7, TOP)


class Link(unittest.TestCase):
    def test_on_for_every_pair_in_both_orders(self):
        for u in range(7):
            for v in range(7):
                if u != v:
                    before = [*strangers(7), link(u, v, 1)]
                    self.assertEqual(after(strangers(7), link(u, v, 1)), [[0]])
                    self.assertEqual(known_pairs(before, range(7)), both_ways((u, v)))

    def test_off_for_every_pair_in_both_orders(self):
        everyone = known_pairs(crowd_of(7), range(7))
        for u in range(7):
            for v in range(7):
                if u != v:
                    self.assertEqual(after(crowd_of(7), link(u, v, 0)), [[0]])
                    before = [*crowd_of(7), link(u, v, 0)]
                    self.assertEqual(known_pairs(before, range(7)), everyone - both_ways((u, v)))

    def test_when_it_is_so_already(self):
        told = after(strangers(2), link(0, 1, 0), link(0, 1, 1), link(0, 1, 1), link(1, 0, 1))
        self.assertEqual(told, [[0]] * 4)
        self.assertEqual(known_pairs([*strangers(2), link(0, 1, 0)], range(2)), set())
        self.assertEqual(known_pairs([*crowd_of(2), link(1, 0, 1)], range(2)), both_ways((0, 1)))

    def test_on_and_off_in_different_orders(self):
        before = [*strangers(3), link(2, 0, 1), link(0, 2, 0), link(1, 2, 1)]
        self.assertEqual(known_pairs(before, range(3)), both_ways((1, 2)))

    def test_a_link_goes_with_its_guest(self):
        before = [*strangers(3), link(0, 2, 1), drop(2), add()]
        self.assertEqual(known_pairs(before, range(3)), set())


class Refused(unittest.TestCase):
    def test_a_number_above_6(self):
        for number in ABOVE:
            told = after(strangers(7), link(number, 0, 1), link(0, number, 1), link(number, 1, 0), link(number, 8, 1))
            self.assertEqual(told, [[-1]] * 4)

    def test_u_is_v(self):
        for guest in range(7):
            self.assertEqual(after(strangers(7), link(guest, guest, 1), link(guest, guest, 0)), [[-1], [-1]])
        self.assertEqual(after(strangers(7), link(7, 7, 1), link(TOP, TOP, 0)), [[-1], [-1]])

    def test_on_above_1(self):
        for on in (2, 3, 7, 2 ** 32, 2 ** 63, TOP - 1, TOP):
            self.assertEqual(after(strangers(2), link(0, 1, on), link(1, 0, on)), [[-1], [-1]])

    def test_one_is_not_there(self):
        told = after([*strangers(4), drop(1)], link(0, 1, 1), link(1, 0, 1), link(6, 0, 0), link(1, 4, 1))
        self.assertEqual(told, [[-3]] * 4)

    def test_wrong_numbers_come_before_not_there(self):
        self.assertEqual(answered(link(0, 7, 1), link(7, 0, 1), link(0, 0, 1), link(0, 1, 2)), [[-1]] * 4)
        told = after(strangers(1), link(0, 1, 2), link(1, 0, TOP), link(1, 1, 0), link(1, 7, 0), link(7, 1, 0))
        self.assertEqual(told, [[-1]] * 5)

    def test_nothing_is_changed(self):
        refused = [link(0, 7, 1), link(7, 1, 0), link(0, 0, 1), link(0, 1, 2), link(0, 6, 1), link(6, 1, 0)]
        none = [*strangers(3), *refused, *[add()] * 4]
        self.assertEqual(known_pairs(none, range(7)), set())
        some = [*crowd_of(3), link(0, 1, 2), link(1, 0, TOP), link(0, 3, 0), link(0, 8, 0), add()]
        self.assertEqual(known_pairs(some, range(4)), both_ways((0, 1), (0, 2), (1, 2)))
        self.assertEqual(after(strangers(3), *refused, count())[-1], [3])


if __name__ == "__main__":
    unittest.main()
