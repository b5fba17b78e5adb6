import unittest

from lines import add, after, answered, count, crowd_of, drop, link, linked, strangers


class Count(unittest.TestCase):
    def test_none(self):
        self.assertEqual(answered(count()), [[0]])

    def test_some_and_all(self):
        for size in range(8):
            self.assertEqual(after(strangers(size), count()), [[size]])
            self.assertEqual(after(crowd_of(size), count()), [[size]])

    def test_after_drops(self):
        told = after(crowd_of(7), drop(3), count(), drop(0), count(), add(), count())
        self.assertEqual(told, [[0], [6], [0], [5], [0], [6]])

    def test_with_gaps_in_the_numbers(self):
        self.assertEqual(after([*strangers(7), drop(0), drop(2), drop(4)], count()), [[4]])

    def test_after_refused_calls(self):
        refused = [drop(7), drop(5), link(0, 0, 1), link(0, 5, 1), link(0, 1, 2), linked(1, 1), linked(5, 0)]
        self.assertEqual(after(strangers(3), *refused, count())[-1], [3])
        self.assertEqual(after([], *refused, count())[-1], [0])
        self.assertEqual(after(strangers(7), add(), add(1), count()), [[-2], [-2], [7]])

    def test_links_and_questions_do_not_count(self):
        told = after(strangers(2), link(0, 1, 1), count(), link(0, 1, 0), linked(0, 1), count(), count())
        self.assertEqual(told, [[0], [2], [0], [0], [2], [2]])


if __name__ == "__main__":
    unittest.main()
