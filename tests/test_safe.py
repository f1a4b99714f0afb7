import random
import unittest

from plain import (TOP, SetSearch, all_places, ask, ask_of, begin, best, is_endless, range_of, safe, small, text, thin,
                   value)

# 1 20 | 21, 30 40 | 70, 31 60 | 91
SQUARE = (2, 2, [1, 20, 30, 40])
CELLS = [0, 1, 3, 4]


class SafeTest(unittest.TestCase):

    def test_good(self):
        told = ask_of(SQUARE, safe(2, CELLS), safe(3, CELLS), safe(3, list(range(9))), safe(3, [0, 2, 6, 8]))
        self.assertEqual(told, [[1]] * 4)

    def test_published(self):
        told = ask_of(SQUARE, safe(3, []), safe(3, [1, 3, 4]), safe(3, [1, 2, 3, 4, 5, 6, 7, 8]))
        self.assertEqual(told, [[0, 0]] * 3)

    def test_withheld_alone(self):
        told = ask_of(SQUARE, safe(3, [0]), safe(3, [0, 1]), safe(3, [0, 4]), safe(3, [0, 1, 3]))
        self.assertEqual(told, [[0, 0]] * 4)

    def test_can_not_be_0(self):
        # 2 1 | 3, 0 5 | 5: the second cell can't go below 1, for the third can't go below 0.
        table = (2, 2, [2, 1, 0, 5])
        told = ask_of(table, small(2), range_of(1, CELLS), safe(2, CELLS), safe(2, list(range(9))))
        self.assertEqual(told, [[0, 1], [0, 1, 3], [0, 1], [1]])

    def test_can_not_be_k(self):
        # The first cell and the second are 21 together.
        told = ask_of(SQUARE, range_of(0, CELLS), safe(21, CELLS), safe(22, CELLS), safe(22, list(range(9))))
        self.assertEqual(told, [[0, 0, 21], [1], [0, 0], [1]])

    def test_k_itself_is_enough(self):
        # 1 5 | 6, 1 5 | 6: withheld are both rows' first two places, each of them can be 0 to 6.
        told = ask_of((1, 2, [1, 5]), safe(6, CELLS), safe(7, CELLS))
        self.assertEqual(told, [[1], [0, 0]])

    def test_endless(self):
        hidden = [0, 2, 3, 5]
        told = ask_of((1, 2, [1, 5]), range_of(0, hidden), safe(2, hidden), safe(5, hidden), safe(6, hidden))
        self.assertEqual(told, [[1, 0], [1], [1], [0, 1]])
        told = ask_of((1, 1, [1]), safe(1000, [0, 1, 2, 3]), safe(1000, [0, 1, 2]), safe(1000, [1, 2, 3]))
        self.assertEqual(told, [[1], [0, 0], [0, 0]])

    def test_the_lowest_that_is_not_safe(self):
        # 1 9 9 | 19, 9 1 9 | 19, 10 10 18 | 38: both cells with 1 are small.
        table = (2, 3, [1, 9, 9, 9, 1, 9])
        told = ask_of(table, safe(2, [0, 2, 4, 6]), safe(2, [1, 2, 5, 6]), safe(2, [0, 1, 4, 5]), safe(2, [0, 5]))
        self.assertEqual(told, [[0, 5], [0, 0], [1], [0, 0]])

    def test_a_margin_that_is_small(self):
        # 1 0 | 1, 50 60 | 110, 51 60 | 111: the first row's sum is small too.
        table = (2, 2, [1, 0, 50, 60])
        told = ask_of(table, small(2), safe(2, CELLS), safe(2, [0, 2, 3, 5]), safe(2, [2, 3, 5]))
        self.assertEqual(told, [[0, 0, 2], [0, 0], [1], [0, 0]])

    def test_a_margin_alone_is_not_safe(self):
        # 0 0 | 0, 3 1 | 4, 3 0 | 3, 6 1 | 7: the sums 4 and 3 are published, and 6: the last 1 can't be 0.
        table = (3, 2, [0, 0, 3, 1, 3, 0])
        hidden = [0, 1, 2, 3, 4, 6, 7, 10, 11]
        told = ask_of(table, small(3), range_of(10, hidden), safe(3, hidden), safe(3, hidden[:-2] + [9, 10, 11]))
        self.assertEqual(told, [[0, 4, 10], [1, 1], [0, 10], [1]])

    def test_without_a_small_place(self):
        for table in ((2, 2, [5, 6, 7, 8]), (2, 2, [0, 0, 0, 0]), (2, 2, [0, 5, 5, 0], [1, 0, 0, 1])):
            told = ask_of(table, safe(2, []), safe(5, []), safe(5, [0]), safe(5, CELLS), safe(5, list(range(9))))
            self.assertEqual(told, [[1]] * 5)

    def test_k_at_its_ends(self):
        table = (2, 2, [999, 1000, 5000, 5000])
        told = ask_of(table, safe(2, []), safe(999, []), safe(1000, []), safe(1000, CELLS), safe(1000, [0]))
        self.assertEqual(told, [[1], [1], [0, 0], [1], [0, 0]])
        told = ask_of((2, 2, [1, 2, 2, 2]), safe(2, []), safe(2, CELLS), safe(3, [0]))
        self.assertEqual(told, [[0, 0], [1], [0, 0]])

    def test_blank_cells_can_not_help(self):
        table = (2, 2, [1, 20, 30, 0], [0, 0, 0, 1])
        told = ask_of(table, safe(2, CELLS), safe(2, [0, 2, 3, 5]), safe(2, [0, 1, 2, 3, 4, 5, 6, 7, 8]))
        self.assertEqual(told, [[0, 0], [1], [1]])

    def test_refusals(self):
        wrong = ([1, 0], [0, 0], [0, 1, 1], [9], [0, TOP], [TOP], list(range(10)), list(range(300)), [4, 3, 9])
        for hidden in wrong:
            told = ask_of(SQUARE, safe(3, hidden), safe(1, hidden), safe(TOP, hidden), safe(3, CELLS))
            self.assertEqual(told, [[-1], [-1], [-1], [1]])
        for k in (0, 1, 1001, TOP):
            told = ask_of(SQUARE, safe(k, CELLS), safe(k, []), safe(k, [3, 3]), safe(3, CELLS))
            self.assertEqual(told, [[-2], [-2], [-1], [1]])


class NoTableTest(unittest.TestCase):

    def test_refused_till_a_begin_has_answered_0(self):
        calls = [safe(3, [0]), safe(0, [1, 0]), thin(3, [0]), thin(0, [5, 5]), best(3), best(0), text([]), text([TOP])]
        refused = [[-9]] * len(calls)
        told = ask(*calls, begin(0, 1, []), *calls, begin(1, 1, [5], [1]), *calls, begin(1, 1, [5]), value(0))
        self.assertEqual(told, refused + [[-2]] + refused + [[-1]] + refused + [[0], [0, 5]])

    def test_the_table_before_is_held_after_a_refused_begin(self):
        calls = [safe(3, [0]), thin(3, list(range(9))), best(3), text(CELLS)]
        told = ask(begin(*SQUARE), begin(17, 1, []), *calls, begin(2, 2, [1, 2, 3]), *calls)
        self.assertEqual(told[2:6], ask_of(SQUARE, *calls))
        self.assertEqual(told[7:], told[2:6])


class SafeSearchTest(unittest.TestCase):
    """Compared with a plain search, or with the ranges."""

    def check(self, table, k, sets):
        search = SetSearch(table, k)
        told = ask_of(table, *[safe(k, hidden) for hidden in sets])
        for hidden, answer in zip(sets, told):
            unsafe = search.unsafe(hidden)
            self.assertEqual(answer, [0, unsafe[0]] if unsafe else [1], (table, k, hidden))

    def test_every_set_of_two_by_two(self):
        sets = [[place for place in range(9) if mask >> place & 1] for mask in range(512)]
        for table, k in (((2, 2, [1, 2, 2, 3]), 2), ((2, 2, [1, 0, 2, 2]), 3), ((2, 2, [0, 2, 1, 1], [1, 0, 0, 0]), 3),
                         ((2, 2, [2, 2, 2, 2]), 3), ((2, 2, [1, 3, 3, 0], [0, 0, 0, 1]), 2)):
            for some in (sets[:256], sets[256:]):
                self.check(table, k, some)

    def test_some_sets_of_other_sizes(self):
        chance = random.Random(71)
        for turn in range(60):
            rows, columns = chance.choice([(1, 1), (1, 2), (2, 1), (1, 4), (4, 1), (2, 3), (3, 2)])
            blanks = [int(chance.random() < 0.15) for cell in range(rows * columns)]
            counts = [0 if blank else chance.randint(0, 2) for blank in blanks]
            table = (rows, columns, counts, blanks)
            sets = [[place for place in all_places(table) if chance.random() < share]
                    for share in (0.5, 0.7, 0.8, 0.9, 0.95)]
            self.check(table, chance.choice([2, 2, 3]), sets)

    def test_by_the_ranges(self):
        chance = random.Random(72)
        for turn in range(150):
            rows, columns = chance.randint(1, 6), chance.randint(1, 6)
            k = chance.choice([2, 3, 10, 500, 1000])
            blanks = [int(chance.random() < 0.1) for cell in range(rows * columns)]
            counts = [0 if blank else chance.choice([0, 1, k - 1, k, 3 * k, 1000000]) for blank in blanks]
            table = (rows, columns, counts, blanks)
            hidden = [place for place in all_places(table) if chance.random() < chance.choice([0.6, 0.9, 1])]
            answer, smalls = ask_of(table, safe(k, hidden), small(k))
            lowest = [place for place in smalls[1:] if not self.is_safe(table, k, place, hidden)][:1]
            self.assertEqual(answer, [0] + lowest if lowest else [1], (table, k, hidden))

    def is_safe(self, table, k, place, hidden):
        told = ask_of(table, range_of(place, hidden))[0]
        if place not in hidden or told[1] != 0:
            return False
        return is_endless(table, hidden, place) if told[0] == 1 else told[2] >= k


if __name__ == "__main__":
    unittest.main()
