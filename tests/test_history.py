"""Long histories of calls, held against a second telling of the document's words."""

import random
import unittest

from histories import some_history
from lines import answered


class History(unittest.TestCase):
    def test_drawn_histories(self):
        source = random.Random(7)
        seen = []
        for history in range(300):
            calls, told = some_history(source)
            self.assertEqual(answered(*calls), told, calls)
            seen.extend((call[0], answer[0]) for call, answer in zip(calls, told))
        # Each kind of answer comes many times, else this would show less than it seems to.
        for kind in ((0, -2), (1, -1), (1, -3), (2, -1), (2, -3), (3, -1), (3, -3), (5, 0), (5, 1), (6, -4), (7, -4)):
            self.assertGreater(seen.count(kind), 40, kind)
        for kind in ((6, 3), (6, 4), (7, 3), (7, 4), (8, 0), (8, 1), (9, 0), (9, 1)):
            self.assertGreater(seen.count(kind), 40, kind)


if __name__ == "__main__":
    unittest.main()
