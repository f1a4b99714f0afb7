import random
import unittest

from plain import TOP, all_places, ask_of, blank_cells, text, with_margins

# 1 20 | 21, 30 40 | 70, 31 60 | 91
SQUARE = (2, 2, [1, 20, 30, 40])


def written(table, hidden):
    """The text that is expected, written the other way round: sign by sign."""
    amounts = with_margins(table)
    blank = blank_cells(table)
    signs = ""
    for place in all_places(table):
        if place in blank:
            signs += "-"
        elif place in hidden:
            signs += "."
        else:
            signs += str(amounts[place])
        signs += "\n" if place % (table[1] + 1) == table[1] else " "
    return [0] + list(signs.encode("ascii"))


class TextTest(unittest.TestCase):

    def check(self, table, hidden, expected):
        self.assertEqual(ask_of(table, text(hidden)), [[0] + list(expected)])

    def test_nothing_withheld(self):
        self.check(SQUARE, [], b"1 20 21\n30 40 70\n31 60 91\n")

    def test_some_withheld(self):
        self.check(SQUARE, [0, 1, 3, 4], b". . 21\n. . 70\n31 60 91\n")
        self.check(SQUARE, [0, 2, 6, 8], b". 20 .\n30 40 70\n. 60 .\n")
        self.check(SQUARE, [8], b"1 20 21\n30 40 70\n31 60 .\n")

    def test_all_withheld(self):
        self.check(SQUARE, list(range(9)), b". . .\n. . .\n. . .\n")

    def test_blank_cells(self):
        table = (2, 2, [1, 0, 30, 0], [0, 1, 0, 0])
        self.check(table, [], b"1 - 1\n30 0 30\n31 0 31\n")
        self.check(table, [1], b"1 - 1\n30 0 30\n31 0 31\n")
        self.check(table, [0, 1, 3, 4], b". - 1\n. . 30\n31 0 31\n")
        self.check(table, list(range(9)), b". - .\n. . .\n. . .\n")
        self.check((1, 2, [0, 0], [1, 1]), [], b"- - 0\n0 0 0\n")
        self.check((1, 2, [0, 0], [1, 1]), [0, 2, 3], b"- - .\n. 0 0\n")

    def test_none_is_a_digit(self):
        self.check((1, 1, [0]), [], b"0 0\n0 0\n")
        self.check((1, 1, [0]), [0], b". 0\n0 0\n")

    def test_one_row_and_one_column(self):
        self.check((1, 3, [7, 80, 9]), [1], b"7 . 9 96\n7 80 9 96\n")
        self.check((3, 1, [7, 80, 9]), [1], b"7 .\n80 80\n9 9\n96 96\n")

    def test_large_counts(self):
        self.check((1, 2, [1000000, 999999]), [], b"1000000 999999 1999999\n1000000 999999 1999999\n")
        row = b"1000000 " * 16 + b"16000000\n"
        self.check((16, 16, [1000000] * 256), [], row * 16 + b"16000000 " * 16 + b"256000000\n")
        self.check((16, 16, [1000000] * 256), list(range(289)), (b". " * 16 + b".\n") * 17)
        self.check((16, 16, [0] * 256, [1] * 256), list(range(289)), (b"- " * 16 + b".\n") * 16 + b". " * 16 + b".\n")

    def test_many_tables(self):
        chance = random.Random(99)
        for turn in range(100):
            rows, columns = chance.randint(1, 16), chance.randint(1, 16)
            blanks = [int(chance.random() < 0.2) for cell in range(rows * columns)]
            counts = [0 if blank else chance.choice([0, 7, 10, 123, 1000000]) for blank in blanks]
            table = (rows, columns, counts, blanks)
            hidden = [place for place in all_places(table) if chance.random() < chance.choice([0, 0.3, 0.7])]
            self.assertEqual(ask_of(table, text(hidden), text([])), [written(table, hidden), written(table, [])])

    def test_refusals(self):
        wrong = ([1, 0], [0, 0], [0, 1, 1], [9], [0, TOP], [TOP], list(range(10)), list(range(300)), [4, 3, 9])
        for hidden in wrong:
            self.assertEqual(ask_of(SQUARE, text(hidden), text([])), [[-1], written(SQUARE, [])])


if __name__ == "__main__":
    unittest.main()
