import unittest

from plain import TOP, all_places, ask_of, range_of, with_margins


def ranges(table, hidden, places=None):
    places = all_places(table) if places is None else places
    return ask_of(table, *[range_of(place, hidden) for place in places])


class RangeTest(unittest.TestCase):

    def test_nothing_withheld(self):
        for table in ((2, 2, [1, 0, 3, 4]), (1, 1, [0]), (1, 3, [0, 5, 0], [1, 0, 0]), (3, 1, [7, 8, 9])):
            self.assertEqual(ranges(table, []), [[0, n, n] for n in with_margins(table)])

    def test_all_withheld(self):
        for table in ((2, 2, [1, 0, 3, 4]), (1, 1, [0]), (3, 1, [7, 8, 9]), (1, 16, [5] * 16), (16, 16, [5] * 256)):
            places = all_places(table)
            self.assertEqual(ranges(table, places), [[1, 0]] * len(places))

    def test_one_cell_alone_is_worked_out(self):
        table = (2, 2, [1, 2, 3, 4])
        for place in all_places(table):
            amount = with_margins(table)[place]
            self.assertEqual(ranges(table, [place], [place]), [[0, amount, amount]])

    def test_one_row_withheld_but_for_its_sum(self):
        # Published column sums still tell each cell.
        table = (2, 2, [1, 2, 3, 4])
        self.assertEqual(ranges(table, [0, 1], [0, 1]), [[0, 1, 1], [0, 2, 2]])

    def test_cells_of_a_square(self):
        table = (2, 2, [1, 2, 3, 4])
        hidden = [0, 1, 3, 4]
        self.assertEqual(ranges(table, hidden, hidden), [[0, 0, 3], [0, 0, 3], [0, 1, 4], [0, 3, 6]])

    def test_published_places_beside_withheld_ones(self):
        table = (2, 2, [1, 2, 3, 4])
        seen = [2, 5, 6, 7, 8]
        self.assertEqual(ranges(table, [0, 1, 3, 4], seen), [[0, n, n] for n in (3, 7, 4, 6, 10)])

    def test_a_published_cell_with_all_else_withheld(self):
        table = (2, 2, [1, 2, 3, 4])
        expected = [[0, 1, 1], [1, 0], [1, 1], [1, 0], [1, 0], [1, 0], [1, 1], [1, 0], [1, 1]]
        self.assertEqual(ranges(table, list(range(1, 9))), expected)

    def test_blank_cells(self):
        table = (2, 2, [0, 2, 3, 4], [1, 0, 0, 0])
        self.assertEqual(ranges(table, [], [0]), [[0, 0, 0]])
        self.assertEqual(ranges(table, [0], [0]), [[0, 0, 0]])
        self.assertEqual(ranges(table, [0, 1, 3, 4], [0, 1, 3, 4]), [[0, n, n] for n in (0, 2, 3, 4)])
        self.assertEqual(ranges(table, list(range(9))), [[0, 0, 0]] + [[1, 0]] * 8)

    def test_a_cell_that_is_0_but_not_blank(self):
        table = (2, 2, [0, 2, 3, 4])
        self.assertEqual(ranges(table, [0, 1, 3, 4], [0, 1, 3, 4]), [[0, 0, 2], [0, 0, 2], [0, 1, 3], [0, 4, 6]])

    def test_margins_of_blank_cells_alone(self):
        table = (2, 2, [0, 0, 3, 4], [1, 1, 0, 0])
        self.assertEqual(ranges(table, list(range(9)), [0, 1, 2, 5]), [[0, 0, 0], [0, 0, 0], [0, 0, 0], [1, 0]])
        table = (1, 2, [0, 0], [1, 1])
        self.assertEqual(ranges(table, list(range(6))), [[0, 0, 0]] * 6)

    def test_endless_through_withheld_margins(self):
        # One cell, its row's sum, its column's sum and the whole rise together.
        table = (2, 2, [1, 2, 3, 4])
        hidden = [0, 2, 6, 8]
        self.assertEqual(ranges(table, hidden, hidden), [[1, 0], [1, 2], [1, 3], [1, 9]])

    def test_the_whole_published_ends_it(self):
        table = (2, 2, [1, 2, 3, 4])
        self.assertEqual(ranges(table, [0, 2, 6], [0, 2, 6]), [[0, 1, 1], [0, 3, 3], [0, 4, 4]])
        hidden = [0, 2, 4, 5, 6, 7]
        expected = [[0, 0, 5], [0, 2, 7], [0, 0, 5], [0, 3, 8], [0, 3, 8], [0, 2, 7]]
        self.assertEqual(ranges(table, hidden, hidden), expected)

    def test_held_in_by_several_rows_and_columns(self):
        # Round the one circle each second place falls as far as the least of them goes.
        # 5 1 .     the circle is (0,0) (0,1) (1,1) (1,2) (2,2) (2,0)
        # . 7 2
        # 4 . 9
        table = (3, 3, [5, 1, 6, 8, 7, 2, 4, 3, 9])
        hidden = [0, 1, 5, 6, 8, 10]
        expected = [[0, 0, 6], [0, 0, 6], [0, 2, 8], [0, 1, 7], [0, 3, 9], [0, 4, 10]]
        self.assertEqual(ranges(table, hidden, hidden), expected)

    def test_two_circles_add_up(self):
        # The first row's first cell rises by way of the second row and by way of the third.
        table = (3, 2, [1, 9, 2, 0, 5, 0])
        hidden = [0, 1, 3, 4, 6, 7]
        self.assertEqual(ranges(table, hidden, [0]), [[0, 1, 8]])
        table = (3, 2, [1, 90, 2, 0, 5, 0])
        self.assertEqual(ranges(table, hidden, hidden),
                         [[0, 1, 8], [0, 83, 90], [0, 0, 2], [0, 0, 2], [0, 0, 5], [0, 0, 5]])

    def test_all_cells_withheld_margins_published(self):
        # A cell lies between the known bounds of its two sums and the whole.
        table = (3, 4, [9, 0, 2, 7, 1, 1, 0, 3, 30, 8, 0, 5])
        amounts = with_margins(table)
        hidden = [row * 5 + column for row in range(3) for column in range(4)]
        for row in range(3):
            for column in range(4):
                row_sum, column_sum = amounts[row * 5 + 4], amounts[15 + column]
                least, most = max(0, row_sum + column_sum - amounts[19]), min(row_sum, column_sum)
                self.assertEqual(ranges(table, hidden, [row * 5 + column]), [[0, least, most]])

    def test_withheld_margins_alone_are_worked_out(self):
        table = (2, 3, [1, 2, 3, 4, 5, 6])
        self.assertEqual(ranges(table, [3, 7, 8, 9, 10, 11]), [[0, n, n] for n in with_margins(table)])


class RangeRefusalTest(unittest.TestCase):

    def test_sets_that_do_not_rise(self):
        table = (2, 2, [1, 2, 3, 4])
        for wrong in ([1, 0], [0, 0], [0, 1, 1], [8, 7], [0, 2, 1, 3], [3, 4, 5, 5], [0] * 300):
            self.assertEqual(ask_of(table, range_of(0, wrong), range_of(0, [0])), [[-1], [0, 1, 1]])

    def test_numbers_of_no_place_in_a_set(self):
        table = (2, 2, [1, 2, 3, 4])
        self.assertEqual(ask_of(table, range_of(0, list(range(9)))), [[1, 0]])
        for wrong in ([9], [0, 9], [0, 1, TOP], [TOP], list(range(10)), list(range(300))):
            self.assertEqual(ask_of(table, range_of(0, wrong), range_of(0, [0])), [[-1], [0, 1, 1]])

    def test_no_such_place(self):
        table = (2, 2, [1, 2, 3, 4])
        told = ask_of(table, range_of(8, []), range_of(9, []), range_of(TOP, [0, 1]), range_of(8, [8]))
        self.assertEqual(told, [[0, 10, 10], [-4], [-4], [0, 10, 10]])

    def test_sets_ahead_of_places(self):
        table = (2, 2, [1, 2, 3, 4])
        for wrong in ([1, 0], [0, 0], [9], [TOP]):
            for place in (9, TOP):
                self.assertEqual(ask_of(table, range_of(place, wrong)), [[-1]])


if __name__ == "__main__":
    unittest.main()
