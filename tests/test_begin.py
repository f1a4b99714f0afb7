import unittest

from plain import TOP, ask, begin, other, range_of, small, value

HELD = begin(2, 2, [1, 2, 3, 4])


def refused(case, call, number):
    """The begin is refused with the number, and the table held before is held still."""
    case.assertEqual(ask(call, value(0)), [[number], [-9]])
    told = ask(HELD, value(8), call, value(8), value(0), value(9))
    case.assertEqual(told, [[0], [0, 10], [number], [0, 10], [0, 1], [-4]])


class BeginTest(unittest.TestCase):

    def test_each_size(self):
        for rows in range(1, 17):
            for columns in range(1, 17):
                counts = list(range(1, rows * columns + 1))
                whole = (rows + 1) * (columns + 1) - 1
                told = ask(begin(rows, columns, counts), value(0), value(whole), value(whole + 1))
                self.assertEqual(told, [[0], [0, 1], [0, sum(counts)], [-4]])

    def test_rows_or_columns_out_of_bounds(self):
        for wrong in (0, 17, 18, 300, TOP):
            refused(self, begin(wrong, 1, [0]), -2)
            refused(self, begin(1, wrong, [0]), -2)
            refused(self, begin(wrong, wrong, [0]), -2)

    def test_seventeen_with_lists_that_fit(self):
        refused(self, begin(17, 1, [0] * 17), -2)
        refused(self, begin(1, 17, [0] * 17), -2)
        refused(self, begin(0, 5, []), -2)

    def test_bounds_ahead_of_lists(self):
        for rows, columns in ((0, 2), (17, 2), (2, 0), (2, 17), (TOP, 2), (2, TOP), (0, 0)):
            refused(self, begin(rows, columns, [1000001, 7], [2, 1, 1]), -2)
            refused(self, begin(rows, columns, [], []), -2)

    def test_lists_of_wrong_length(self):
        right = [0] * 4
        for wrong in ([], [0] * 3, [0] * 5, [0] * 300):
            refused(self, begin(2, 2, wrong, right), -1)
            refused(self, begin(2, 2, right, wrong), -1)
            refused(self, begin(2, 2, wrong, wrong), -1)
        refused(self, begin(16, 16, [0] * 300, [0] * 256), -1)
        refused(self, begin(16, 16, [0] * 256, [0] * 255), -1)

    def test_lists_that_fit_only_together(self):
        refused(self, begin(2, 2, [0] * 3, [0] * 5), -1)
        refused(self, begin(2, 3, [0] * 4, [0] * 4), -1)

    def test_greatest_count(self):
        for at in range(6):
            counts = [0] * 6
            counts[at] = 1000000
            self.assertEqual(ask(begin(2, 3, counts), value(11)), [[0], [0, 1000000]])
            for wrong in (1000001, TOP):
                counts[at] = wrong
                refused(self, begin(2, 3, counts), -1)

    def test_blanks_are_0_or_1(self):
        for at in range(6):
            blanks = [0] * 6
            blanks[at] = 1
            self.assertEqual(ask(begin(2, 3, [0] * 6, blanks)), [[0]])
            for wrong in (2, 3, TOP):
                blanks[at] = wrong
                refused(self, begin(2, 3, [0] * 6, blanks), -1)

    def test_a_blank_cell_counts_0(self):
        for at in range(6):
            counts = [5] * 6
            blanks = [0] * 6
            blanks[at] = 1
            for wrong in (1, 1000000):
                counts[at] = wrong
                refused(self, begin(2, 3, counts, blanks), -1)
            counts[at] = 0
            self.assertEqual(ask(begin(2, 3, counts, blanks), value(11)), [[0], [0, 25]])

    def test_all_blank(self):
        self.assertEqual(ask(begin(1, 2, [0, 0], [1, 1]), value(5)), [[0], [0, 0]])

    def test_a_second_begin_takes_the_place(self):
        told = ask(HELD, begin(1, 1, [7]), value(0), value(3), value(4), begin(1, 2, [8, 9]), value(4), value(5))
        self.assertEqual(told, [[0], [0], [0, 7], [0, 7], [-4], [0], [0, 9], [0, 17]])

    def test_a_second_begin_brings_its_own_blanks(self):
        all_hidden = list(range(6))
        first = begin(1, 2, [0, 0], [1, 0])
        second = begin(1, 2, [0, 0], [0, 1])
        told = ask(first, range_of(0, all_hidden), range_of(1, all_hidden), second, range_of(0, all_hidden),
                   range_of(1, all_hidden))
        self.assertEqual(told, [[0], [0, 0, 0], [1, 0], [0], [1, 0], [0, 0, 0]])


class BeforeBeginTest(unittest.TestCase):

    def test_all_else_is_refused(self):
        calls = [
            value(0), value(TOP), small(2), small(0), small(TOP), range_of(0, []), range_of(0, [3, 3]),
            range_of(TOP, [2, 1]), range_of(0, list(range(300))), other(0, 0, 0, []), other(0, 5, 4, [0]),
            other(TOP, 0, 1, [TOP]), other(1, 1, 0, [5, 4]),
        ]
        self.assertEqual(ask(*calls), [[-9]] * len(calls))
        told = ask(*calls, begin(0, 1, [0]), *calls, begin(1, 1, []), *calls)
        self.assertEqual(told, [[-9]] * 13 + [[-2]] + [[-9]] * 13 + [[-1]] + [[-9]] * 13)

    def test_a_begin_behind_refused_calls(self):
        told = ask(range_of(0, [2, 1]), HELD, value(4))
        self.assertEqual(told, [[-9], [0], [0, 4]])


if __name__ == "__main__":
    unittest.main()
