import random
import unittest

from plain import TOP, ask_of, small, with_margins


class SmallTest(unittest.TestCase):

    def test_cells_and_margins(self):
        # Places: 0 1 | 1, 2 0 | 2, 2 1 | 3
        table = (2, 2, [0, 1, 2, 0])
        told = ask_of(table, small(2), small(3), small(4), small(1000))
        self.assertEqual(told, [[0, 1, 2, 7], [0, 1, 2, 3, 5, 6, 7], [0, 1, 2, 3, 5, 6, 7, 8],
                                [0, 1, 2, 3, 5, 6, 7, 8]])

    def test_margins_alone_aside(self):
        # The cells are too large or none; no margin is smaller than a cell beside it.
        told = ask_of((1, 2, [3, 0]), small(2), small(3), small(4))
        self.assertEqual(told, [[0], [0], [0, 0, 2, 3, 5]])

    def test_bound_itself_is_not_small(self):
        told = ask_of((1, 2, [999, 1000]), small(999), small(1000))
        self.assertEqual(told, [[0], [0, 0, 3]])

    def test_none_is_not_small(self):
        self.assertEqual(ask_of((2, 2, [0, 0, 0, 0]), small(2), small(1000)), [[0], [0]])
        self.assertEqual(ask_of((1, 2, [0, 5], [1, 0]), small(1000)), [[0, 1, 2, 4, 5]])

    def test_bounds_of_k(self):
        told = ask_of((1, 1, [1]), small(0), small(1), small(2), small(1000), small(1001), small(TOP), small(2))
        every = [0, 0, 1, 2, 3]
        self.assertEqual(told, [[-2], [-2], every, every, [-2], [-2], every])

    def test_largest_table(self):
        every = list(range(289))
        self.assertEqual(ask_of((16, 16, [1] * 256), small(257)), [[0] + every])
        self.assertEqual(ask_of((16, 16, [1] * 256), small(256)), [[0] + every[:-1]])

    def test_many_tables(self):
        chance = random.Random(12)
        for turn in range(80):
            rows, columns = chance.randint(1, 6), chance.randint(1, 6)
            table = (rows, columns, [chance.choice([0, 1, 2, 9, 500]) for cell in range(rows * columns)])
            k = chance.randint(2, 1000)
            expected = [place for place, amount in enumerate(with_margins(table)) if amount in range(1, k)]
            self.assertEqual(ask_of(table, small(k)), [[0] + expected])


if __name__ == "__main__":
    unittest.main()
