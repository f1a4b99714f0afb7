import random
import unittest

from plain import TOP, SetSearch, ask, ask_of, begin, best, safe, value, with_margins

# 1 20 | 21, 30 40 | 70, 31 60 | 91
SQUARE = (2, 2, [1, 20, 30, 40])


class BestTest(unittest.TestCase):

    def test_one_small_cell(self):
        # Four circles of four places go through the cell; that of the cells has the least sum.
        self.assertEqual(ask_of(SQUARE, best(2), best(20), best(3)), [[0, 0, 1, 3, 4]] * 3)

    def test_nothing_small(self):
        for table in ((2, 2, [5, 6, 7, 8]), (1, 1, [0]), (2, 3, [0] * 6, [1] * 6), (1, 5, [5] * 5)):
            self.assertEqual(ask_of(table, best(2), best(5)), [[0], [0]])

    def test_the_fewest_ahead_of_the_least_sum(self):
        # 1 3 0 | 4, 1 0 2 | 3, 2 3 2 | 7: six cells would have a sum of 7, these four have 9.
        table = (2, 3, [1, 3, 0, 1, 0, 2])
        told = ask_of(table, best(2), safe(2, [0, 1, 2, 4, 5, 6]), safe(2, [0, 3, 4, 7]))
        self.assertEqual(told, [[0, 0, 3, 4, 7], [1], [1]])

    def test_the_least_sum_ahead_of_the_first(self):
        told = ask_of((2, 3, [1, 6, 5, 9, 9, 9]), best(2), safe(2, [0, 1, 4, 5]), safe(2, [0, 2, 4, 6]))
        self.assertEqual(told, [[0, 0, 2, 4, 6], [1], [1]])

    def test_the_first_of_the_same_sum(self):
        told = ask_of((2, 3, [1, 5, 5, 9, 9, 9]), best(2), safe(2, [0, 1, 4, 5]), safe(2, [0, 2, 4, 6]))
        self.assertEqual(told, [[0, 0, 1, 4, 5], [1], [1]])
        self.assertEqual(ask_of((3, 2, [1, 9, 5, 9, 5, 9]), best(2)), [[0, 0, 1, 3, 4]])
        self.assertEqual(ask_of((2, 3, [5, 5, 1, 9, 9, 9]), best(2)), [[0, 0, 2, 4, 6]])

    def test_all_places(self):
        self.assertEqual(ask_of((1, 1, [1]), best(2), best(1000)), [[0, 0, 1, 2, 3]] * 2)
        self.assertEqual(ask_of((2, 3, [1] * 6), best(1000)), [[0] + list(range(12))])

    def test_k_at_its_ends(self):
        # 999 is small by 1000 alone; 1000 is small by none.
        told = ask_of((2, 2, [999, 1000, 5000, 5000]), best(2), best(999), best(1000))
        self.assertEqual(told, [[0], [0], [0, 0, 1, 3, 4]])

    def test_blank_cells_are_never_withheld(self):
        told = ask_of((2, 2, [1, 20, 30, 0], [0, 0, 0, 1]), best(2))
        self.assertEqual(told, [[0, 0, 1, 6, 7]])
        told = ask_of((2, 3, [1, 0, 8, 7, 0, 9], [0, 1, 0, 0, 1, 0]), best(2))
        self.assertEqual(told, [[0, 0, 2, 4, 6]])

    def test_twelve_places_and_more(self):
        for rows, columns in ((1, 5), (5, 1), (2, 3), (3, 2), (1, 1), (1, 4), (2, 2), (3, 1)):
            self.assertEqual(ask_of((rows, columns, [2] * (rows * columns)), best(2)), [[0]])
        for rows, columns in ((1, 6), (6, 1), (2, 4), (4, 2), (3, 3), (1, 16), (16, 1), (16, 16)):
            counts = [2] * (rows * columns)
            told = ask_of((rows, columns, counts), best(2), best(1000), best(1), best(1001), value(0))
            self.assertEqual(told, [[-6], [-6], [-2], [-2], [0, 2]])

    def test_refusals(self):
        for k in (0, 1, 1001, TOP):
            self.assertEqual(ask_of(SQUARE, best(k), best(3)), [[-2], [0, 0, 1, 3, 4]])
            self.assertEqual(ask(best(k), begin(4, 4, [0] * 16), best(k), best(2)), [[-9], [0], [-2], [-6]])


class BestSearchTest(unittest.TestCase):
    """Compared with a plain search over all sets."""

    def check(self, table, k):
        self.assertEqual(ask_of(table, best(k)), [[0] + SetSearch(table, k).best()], (table, k))

    def some_tables(self, seed, sizes, many, counts, bounds):
        chance = random.Random(seed)
        for turn in range(many):
            rows, columns = chance.choice(sizes)
            blanks = [int(chance.random() < chance.choice([0, 0, 0.3])) for cell in range(rows * columns)]
            table = (rows, columns, [0 if blank else chance.choice(counts) for blank in blanks], blanks)
            self.check(table, chance.choice(bounds))

    def test_twelve_places(self):
        for sizes, seed in (((1, 5), 91), ((5, 1), 92), ((2, 3), 93), ((3, 2), 94)):
            self.some_tables(seed, [sizes], 15, [0, 1, 2], [2])
            self.some_tables(seed + 10, [sizes], 6, [0, 1, 1, 2], [3])

    def test_few_small_places(self):
        self.some_tables(95, [(2, 3), (3, 2)], 12, [0, 2, 2, 2, 2, 1], [2])
        self.some_tables(96, [(1, 5), (5, 1)], 12, [0, 3, 4, 4, 2], [3])

    def test_smaller_sizes(self):
        self.some_tables(97, [(1, 1), (1, 2), (2, 1), (2, 2), (3, 1), (1, 4)], 60, [0, 1, 2, 3], [2, 3, 4])

    def test_large_counts_by_the_call_safe(self):
        chance = random.Random(98)
        for turn in range(10):
            rows, columns = chance.choice([(2, 3), (3, 2), (2, 2), (1, 5)])
            k = chance.choice([10, 1000])
            counts = [chance.choice([0, 1, k - 1, k, 2 * k, 1000000]) for cell in range(rows * columns)]
            table = (rows, columns, counts)
            amounts = with_margins(table)
            size = len(amounts)
            sets = [[place for place in range(size) if mask >> place & 1] for mask in range(1 << size)]
            sets = sorted(sets, key=lambda hidden: (len(hidden), sum(amounts[place] for place in hidden), hidden))
            told = []
            while [1] not in told:
                told += ask_of(table, *[safe(k, hidden) for hidden in sets[len(told):len(told) + 200]])
            self.assertEqual(ask_of(table, best(k)), [[0] + sets[told.index([1])]])


if __name__ == "__main__":
    unittest.main()
