import random
import unittest

from plain import TOP, all_places, ask_of, value, with_margins


class ValueTest(unittest.TestCase):

    def test_each_place(self):
        table = (2, 3, [1, 2, 3, 40, 50, 60])
        told = ask_of(table, *[value(place) for place in range(12)])
        self.assertEqual([answer[1] for answer in told], [1, 2, 3, 6, 40, 50, 60, 150, 41, 52, 63, 156])
        self.assertEqual({answer[0] for answer in told}, {0})

    def test_no_such_place(self):
        table = (2, 3, [1, 2, 3, 4, 5, 6])
        told = ask_of(table, value(11), value(12), value(13), value(300), value(TOP), value(0))
        self.assertEqual(told, [[0, 21], [-4], [-4], [-4], [-4], [0, 1]])

    def test_smallest_table(self):
        told = ask_of((1, 1, [9]), *[value(place) for place in range(5)])
        self.assertEqual(told, [[0, 9], [0, 9], [0, 9], [0, 9], [-4]])

    def test_one_row_and_one_column(self):
        told = ask_of((1, 16, list(range(16))), *[value(place) for place in range(35)])
        self.assertEqual(told[:34], [[0, n] for n in list(range(16)) + [120] + list(range(16)) + [120]])
        self.assertEqual(told[34], [-4])
        told = ask_of((16, 1, list(range(16))), *[value(place) for place in range(35)])
        self.assertEqual(told[:34], [[0, n // 2] for n in range(32)] + [[0, 120], [0, 120]])
        self.assertEqual(told[34], [-4])

    def test_largest_table(self):
        table = (16, 16, [1000000] * 256)
        told = ask_of(table, value(0), value(16), value(272), value(288), value(289))
        self.assertEqual(told, [[0, 1000000], [0, 16000000], [0, 16000000], [0, 256000000], [-4]])

    def test_many_tables(self):
        chance = random.Random(11)
        for turn in range(60):
            rows, columns = chance.randint(1, 16), chance.randint(1, 16)
            table = (rows, columns, [chance.randint(0, 1000000) for cell in range(rows * columns)])
            told = ask_of(table, *[value(place) for place in all_places(table)])
            self.assertEqual(told, [[0, amount] for amount in with_margins(table)])


if __name__ == "__main__":
    unittest.main()
