import unittest

from lines import TOP, add, after, answered, both_ways, count, crowd_of, drop, known_pairs, strangers


class Number(unittest.TestCase):
    def test_nobody_is_there_at_the_beginning(self):
        self.assertEqual(answered(count(), add()), [[0], [0]])

    def test_numbers_rise_from_0_to_6(self):
        self.assertEqual(answered(*strangers(7)), [[0], [1], [2], [3], [4], [5], [6]])

    def test_each_dropped_number_is_given_again(self):
        for guest in range(7):
            self.assertEqual(after(strangers(7), drop(guest), add(), add()), [[0], [guest], [-2]])

    def test_the_lowest_of_several_free_numbers(self):
        told = after(strangers(7), drop(5), drop(1), drop(3), add(), add(), add(), add())
        self.assertEqual(told[3:], [[1], [3], [5], [-2]])

    def test_a_gap_goes_before_the_end(self):
        self.assertEqual(after(strangers(4), drop(1), add(), add()), [[0], [1], [4]])


class Knows(unittest.TestCase):
    def test_just_the_ones_in_the_row(self):
        for row in ([], [0], [3], [0, 2], [1, 3], [3, 1, 0], [0, 1, 2, 3]):
            known = known_pairs([*strangers(4), add(*row)], range(5))
            self.assertEqual(known, both_ways(*[(4, guest) for guest in row]), row)

    def test_each_guest_can_be_known_by_the_row(self):
        for guest in range(7):
            free = 0 if guest else 1
            known = known_pairs([*strangers(7), drop(free), add(guest)], range(7))
            self.assertEqual(known, both_ways((free, guest)))

    def test_others_stay_as_they_are(self):
        before = [add(), add(0), add(), add(2)]
        self.assertEqual(known_pairs([*before, add(0, 2)], range(5)), both_ways((0, 1), (2, 3), (4, 0), (4, 2)))

    def test_an_empty_row_in_a_crowd(self):
        before = [*crowd_of(3), add()]
        self.assertEqual(known_pairs(before, range(4)), both_ways((0, 1), (0, 2), (1, 2)))

    def test_who_is_not_there_is_not_known_later_either(self):
        before = [add(1, 2, 3, 4, 5, 6), add(), add()]
        self.assertEqual(known_pairs(before, range(3)), set())

    def test_a_dropped_guest_in_the_row(self):
        before = [*strangers(3), drop(1), drop(0), add(1, 2), add()]
        self.assertEqual(known_pairs(before, range(3)), both_ways((0, 2)))

    def test_numbers_above_6(self):
        before = [*strangers(2), add(7, 8, 1, 14, 2 ** 32, 2 ** 63, 2 ** 64 - 7, TOP)]
        self.assertEqual(known_pairs(before, range(3)), both_ways((2, 1)))

    def test_the_own_number(self):
        self.assertEqual(after([add(0), add(1)], add(2, 0, 2)), [[2]])
        self.assertEqual(known_pairs([add(0), add(1), add(2, 0, 2)], range(3)), both_ways((2, 0)))

    def test_the_own_number_leaves_nothing_behind(self):
        before = [*strangers(3), drop(1), add(1), drop(1), add()]
        self.assertEqual(known_pairs(before, range(3)), set())

    def test_numbers_that_stand_twice(self):
        before = [*strangers(3), add(1, 1, 2, 1, 2)]
        self.assertEqual(known_pairs(before, range(4)), both_ways((3, 1), (3, 2)))


class Refused(unittest.TestCase):
    def test_all_are_taken(self):
        for row in ([], [0], [0, 1, 2, 3, 4, 5, 6], [7, TOP]):
            self.assertEqual(after(strangers(7), add(*row), count()), [[-2], [7]])

    def test_nothing_is_changed(self):
        before = [*strangers(7), add(0, 1, 2, 3, 4, 5, 6), add()]
        self.assertEqual(known_pairs(before, range(7)), set())
        before = [*crowd_of(7), add(), add(3)]
        self.assertEqual(len(known_pairs(before, range(7))), 42)

    def test_the_row_of_a_refused_call_is_not_read_as_calls(self):
        self.assertEqual(after(strangers(7), add(1, 0, 1, 1, 4), count()), [[-2], [7]])

    def test_one_goes_and_one_comes_again(self):
        self.assertEqual(after(strangers(7), add(), drop(6), add(), add()), [[-2], [0], [6], [-2]])


if __name__ == "__main__":
    unittest.main()
