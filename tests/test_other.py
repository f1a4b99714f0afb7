import random
import unittest

from plain import (GREAT_TOP, TOP, ask_of, cell_places, is_endless, is_first, is_other, other, other_tables, range_of,
                   with_margins)

SQUARE = (2, 2, [1, 2, 3, 4])
CELLS = [0, 1, 3, 4]


class OtherTest(unittest.TestCase):

    def test_nothing_withheld(self):
        told = ask_of(SQUARE, other(0, 0, 1, []), other(0, 1, 1, []), other(0, 0, 0, []), other(0, 2, 9, []))
        self.assertEqual(told, [[1, 1, 2, 3, 4], [1, 1, 2, 3, 4], [0], [0]])

    def test_first_without_a_bound_that_matters(self):
        told = ask_of(SQUARE, other(0, 0, GREAT_TOP, CELLS), other(8, 0, GREAT_TOP, CELLS), other(8, 10, 10, CELLS))
        self.assertEqual(told, [[1, 0, 3, 4, 3]] * 3)

    def test_each_amount_that_can_be(self):
        told = ask_of(SQUARE, *[other(0, n, n, CELLS) for n in range(5)])
        self.assertEqual(told, [[1, 0, 3, 4, 3], [1, 1, 2, 3, 4], [1, 2, 1, 2, 5], [1, 3, 0, 1, 6], [0]])

    def test_at_another_place_than_the_first(self):
        told = ask_of(SQUARE, *[other(4, n, n, CELLS) for n in range(2, 8)])
        self.assertEqual(told, [[0], [1, 0, 3, 4, 3], [1, 1, 2, 3, 4], [1, 2, 1, 2, 5], [1, 3, 0, 1, 6], [0]])

    def test_below_above_and_partly_over(self):
        # At the last cell 3 to 6 can be.
        told = ask_of(SQUARE, other(4, 0, 2, CELLS), other(4, 7, 10, CELLS), other(4, 0, 3, CELLS),
                      other(4, 6, 10, CELLS), other(4, 5, 10, CELLS), other(4, 0, 5, CELLS), other(4, 4, 5, CELLS),
                      other(4, 0, 100, CELLS))
        low, high, five = [1, 0, 3, 4, 3], [1, 3, 0, 1, 6], [1, 2, 1, 2, 5]
        self.assertEqual(told, [[0], [0], low, high, five, low, [1, 1, 2, 3, 4], low])

    def test_most_holds_the_first_cells_up(self):
        # The second cell may be 1 at most, so the first can't go below 2.
        told = ask_of(SQUARE, other(1, 0, 1, CELLS), other(1, 0, 0, CELLS), other(3, 0, 2, CELLS))
        self.assertEqual(told, [[1, 2, 1, 2, 5], [1, 3, 0, 1, 6], [1, 2, 1, 2, 5]])

    def test_least_above_most(self):
        told = ask_of(SQUARE, other(0, 1, 0, CELLS), other(0, 2, 1, CELLS), other(0, GREAT_TOP, 0, CELLS),
                      other(0, 1, 0, []), other(0, GREAT_TOP, GREAT_TOP - 1, list(range(9))))
        self.assertEqual(told, [[0]] * 5)

    def test_all_withheld(self):
        every = list(range(9))
        told = ask_of(SQUARE, other(0, 0, 0, every), other(0, 5, 9, every), other(8, 5, 9, every),
                      other(2, 5, 9, every), other(6, 5, 9, every), other(7, 0, 0, every))
        expected = [[0, 0, 0, 0], [5, 0, 0, 0], [0, 0, 0, 5], [0, 5, 0, 0], [0, 0, 5, 0], [0, 0, 0, 0]]
        self.assertEqual(told, [[1] + cells for cells in expected])

    def test_the_greatest_numbers(self):
        every = list(range(9))
        told = ask_of(SQUARE, other(0, GREAT_TOP, GREAT_TOP, every), other(8, GREAT_TOP, GREAT_TOP, every),
                      other(2, GREAT_TOP - 1, GREAT_TOP, every), other(0, GREAT_TOP, GREAT_TOP, CELLS),
                      other(0, 0, GREAT_TOP, CELLS), other(0, GREAT_TOP, GREAT_TOP, []))
        expected = [[1, GREAT_TOP, 0, 0, 0], [1, 0, 0, 0, GREAT_TOP], [1, 0, GREAT_TOP - 1, 0, 0], [0],
                    [1, 0, 3, 4, 3], [0]]
        self.assertEqual(told, expected)

    def test_a_published_place_with_others_withheld(self):
        told = ask_of(SQUARE, other(2, 3, 3, CELLS), other(2, 0, 2, CELLS), other(2, 4, GREAT_TOP, CELLS))
        self.assertEqual(told, [[1, 0, 3, 4, 3], [0], [0]])

    def test_blank_cells_stay_0(self):
        table = (2, 2, [0, 2, 3, 4], [1, 0, 0, 0])
        every = list(range(9))
        told = ask_of(table, other(0, 0, 5, every), other(0, 1, 5, every), other(2, 6, 6, every),
                      other(6, 6, 6, every), other(0, 0, 0, []), other(0, 1, GREAT_TOP, []))
        self.assertEqual(told, [[1, 0, 0, 0, 0], [0], [1, 0, 6, 0, 0], [1, 0, 0, 6, 0], [1, 0, 2, 3, 4], [0]])

    def test_smallest_table(self):
        told = ask_of((1, 1, [5]), other(0, 0, 9, [0, 1, 2, 3]), other(3, 7, 9, [0, 1, 2, 3]), other(3, 7, 9, [0]))
        self.assertEqual(told, [[1, 0], [1, 7], [0]])

    def test_refusals(self):
        told = ask_of(SQUARE, other(9, 0, 0, []), other(TOP, 0, 0, CELLS), other(9, 1, 0, []), other(0, 0, 9, [1, 0]),
                      other(0, 0, 9, [0, 0]), other(0, 0, 9, [9]), other(0, 0, 9, [0, TOP]), other(9, 1, 0, [9]),
                      other(TOP, 0, 0, [1, 1]), other(0, 1, 0, [1, 1]), other(0, 0, 9, list(range(300))))
        self.assertEqual(told, [[-4]] * 3 + [[-1]] * 8)


class OtherSearchTest(unittest.TestCase):
    """Compared with a plain search through all other tables, their withheld counts up to a bound."""

    def check(self, table, hidden, bound, asked):
        found = other_tables(table, hidden, bound)
        told = ask_of(table, *[other(place, least, most, hidden) for place, least, most in asked])
        for (place, least, most), answer in zip(asked, told):
            fits = [cells for cells, amounts in found if least <= amounts[place] <= most]
            self.assertEqual(answer, [1] + fits[0] if fits else [0], (table, hidden, place, least, most))

    def asked_of(self, chance, size, top):
        asked = [(place, chance.randint(0, top), chance.randint(0, top)) for place in range(size)]
        return asked + [(place, least, most + least) for place, least, most in asked]

    def test_two_by_two(self):
        chance = random.Random(41)
        for turn in range(120):
            table = (2, 2, [chance.randint(0, 2) for cell in range(4)])
            hidden = [place for place in range(9) if chance.random() < 0.7]
            self.check(table, hidden, 14, self.asked_of(chance, 9, 3))

    def test_two_by_three(self):
        chance = random.Random(42)
        for turn in range(80):
            blanks = [int(chance.random() < 0.15) for cell in range(6)]
            counts = [0 if blank else chance.randint(0, 1) for blank in blanks]
            hidden = [place for place in range(12) if chance.random() < 0.65]
            size = chance.choice([(2, 3), (3, 2)])
            self.check(size + (counts, blanks), hidden, 6, self.asked_of(chance, 12, 2))

    def test_three_by_three_with_margins_published(self):
        chance = random.Random(43)
        for turn in range(40):
            blanks = [int(chance.random() < 0.1) for cell in range(9)]
            table = (3, 3, [0 if blank else chance.randint(0, 2) for blank in blanks], blanks)
            hidden = [place for place in cell_places(table) if chance.random() < 0.85]
            self.check(table, hidden, 6, self.asked_of(chance, 16, 4))


class OtherProofTest(unittest.TestCase):
    """Larger tables: the answer is an other table, has what was asked for, and none comes before it."""

    def test_middling_tables(self):
        chance = random.Random(44)
        for turn in range(60):
            rows, columns = chance.randint(1, 7), chance.randint(1, 7)
            blanks = [int(chance.random() < 0.15) for cell in range(rows * columns)]
            counts = [0 if blank else chance.choice([0, 1, 7, 100, 1000000]) for blank in blanks]
            table = (rows, columns, counts, blanks)
            size = (rows + 1) * (columns + 1)
            share = chance.choice([0.3, 0.6, 0.9])
            hidden = [place for place in range(size) if chance.random() < share]
            place = chance.randrange(size)
            own = with_margins(table)[place]
            least, most = chance.choice([(own, own), (own + 1, own + 3), (0, own // 2), (0, GREAT_TOP)])
            answer = ask_of(table, other(place, least, most, hidden))[0]
            if answer == [0]:
                self.assertTrue(self.lies_aside(table, hidden, place, least, most))
            else:
                self.assertEqual(answer[0], 1)
                cells = answer[1:]
                self.assertTrue(is_other(table, hidden, cells))
                self.assertTrue(least <= with_margins(table, cells)[place] <= most)
                self.assertTrue(is_first(table, hidden, place, least, most, cells))

    def lies_aside(self, table, hidden, place, least, most):
        told = ask_of(table, range_of(place, hidden))[0]
        if told[0] == 1:
            return most < told[1] and is_endless(table, hidden, place)
        return most < told[1] or least > told[2]


if __name__ == "__main__":
    unittest.main()
