import random
import unittest

import withheld.tables
from plain import GREAT_TOP, TOP, ask, ask_of, begin, best, other, range_of, safe, small, text, thin, value

# All kinds of calls but begin, on a table of 1 20 over 30 40, and what is answered.
EVERY_KIND = [
    (value(8), [0, 91]), (small(3), [0, 0]), (range_of(0, [0, 1, 3, 4]), [0, 0, 21]),
    (other(0, 5, 9, [0, 1, 3, 4]), [1, 5, 16, 26, 44]), (safe(3, [0, 1, 3, 4]), [1]), (safe(3, [0, 1, 3]), [0, 0]),
    (thin(3, list(range(9))), [0, 0, 2, 6, 8]), (thin(3, [0]), [-5]), (best(3), [0, 0, 1, 3, 4]),
    (text([0, 8]), [0] + list(b". 20 21\n30 40 70\n31 60 .\n")), (value(9), [-4]), (best(1), [-2]), (text([9]), [-1]),
]


class InterfaceTest(unittest.TestCase):

    def test_numbers_one_behind_another(self):
        calls = [1, 0, 0, 1, 2, 2, 3, 4, 2, 0, 0, 1, 5, 1, 6, 2, 4, 3, 0, 2, 0, 3, 4, 0, 0, 9, 2, 0, 3, 2, 1, 3, 0, 0]
        expected = [1, -9, 1, 0, 2, 0, 7, 1, -4, 3, 0, 0, 3, 3, 0, 3, 3, 3, 1, 3, 4, 1, -2, 3, 0, 3, 3]
        self.assertEqual(withheld.tables.answers(calls), expected)

    def test_an_endless_greatest_is_not_told(self):
        calls = [0, 1, 1, 1, 5, 1, 0, 3, 0, 4, 0, 1, 2, 3, 4, 0, 7, 7, 4, 0, 1, 2, 3, 4, 0, 2, 1, 0]
        self.assertEqual(withheld.tables.answers(calls), [1, 0, 2, 1, 0, 2, 1, 7, 1, 0])

    def test_numbers_of_safe_thin_best_and_text(self):
        calls = [7, 3, 0, 1, 2, 2, 1, 5, 2, 0, 0, 5, 6, 4, 0, 1, 3, 4, 5, 7, 0, 6, 2, 6, 0, 1, 2, 3, 4, 5, 7, 2, 8, 1, 4]
        told = [1, -9, 1, 0, 1, 1, 2, 0, 0, 5, 0, 0, 2, 3, 5, 5, 0, 0, 1, 3, 4]
        told += [13, 0, 49, 32, 53, 32, 54, 10, 49, 32, 46, 32, 54, 10]
        self.assertEqual(withheld.tables.answers(calls), told)

    def test_a_list_of_all_nine_kinds(self):
        turn = [begin(2, 2, [1, 20, 30, 40])] + [call for call, answer in EVERY_KIND]
        expected = [[0]] + [answer for call, answer in EVERY_KIND]
        self.assertEqual(ask(*(turn * 21)), expected * 21)
        self.assertEqual(ask(*turn[1:], *turn), [[-9]] * len(EVERY_KIND) + expected)

    def test_in_any_order(self):
        chance = random.Random(31)
        for turn in range(10):
            mixed = chance.choices(EVERY_KIND, k=299)
            told = ask_of((2, 2, [1, 20, 30, 40]), *[call for call, answer in mixed])
            self.assertEqual(told, [answer for call, answer in mixed])

    def test_one_table_behind_another(self):
        tables = [(2, 2, [1, 20, 30, 40]), (1, 5, [1, 2, 3, 0, 9], [0, 0, 0, 1, 0]), (3, 3, [1, 2, 3] * 3)]
        calls = []
        expected = []
        for table in tables * 3:
            every = list(range((table[0] + 1) * (table[1] + 1)))
            asked = [safe(3, every), thin(3, every), best(3), text(every[::2]), safe(4, []), small(3)]
            calls += [begin(*table)] + asked
            expected += [[0]] + ask_of(table, *asked)
        self.assertEqual(ask(*calls), expected)

    def test_one_call(self):
        self.assertEqual(withheld.tables.answers([0, 1, 1, 1, 5, 1, 0]), [1, 0])
        self.assertEqual(withheld.tables.answers([0, 1, 1, 0, 0]), [1, -1])
        self.assertEqual(withheld.tables.answers([1, TOP]), [1, -9])

    def test_whole_numbers_alone(self):
        every = list(range(9))
        calls = begin(2, 2, [1, 0, 3, 4], [0, 1, 0, 0]) + value(1) + small(4) + range_of(1, every)
        calls += range_of(0, every) + other(0, 0, 9, every) + other(0, 9, 0, []) + value(TOP) + small(0)
        calls += safe(3, every) + safe(3, []) + thin(3, every) + thin(3, []) + best(4) + text([0, 5]) + text([9])
        told = withheld.tables.answers(calls)
        self.assertIs(type(told), list)
        self.assertEqual({type(number) for number in told}, {int})

    def test_handed_in_is_not_changed(self):
        every = list(range(9))
        calls = begin(2, 2, [1, 2, 3, 4]) + range_of(0, [0, 1, 3, 4]) + other(0, 0, 0, every) + range_of(0, [3, 3])
        calls += begin(2, 2, [1], []) + other(4, 2, GREAT_TOP, [0, 1, 3, 4]) + value(0)
        calls += safe(2, every) + thin(2, every) + best(2) + text(every) + safe(2, []) + thin(2, []) + best(1)
        before = list(calls)
        withheld.tables.answers(calls)
        self.assertEqual(calls, before)

    def test_handed_in_is_only_read(self):
        class OnlyRead(list):
            def changed(self, *given):
                raise AssertionError("what was handed in is changed")

            __setitem__ = __delitem__ = __iadd__ = __imul__ = changed
            append = extend = insert = pop = remove = clear = sort = reverse = changed

        calls = begin(2, 2, [1, 2, 3, 4]) + range_of(0, [0, 1, 3, 4]) + other(0, 0, 0, list(range(9))) + value(0)
        calls += safe(2, list(range(9))) + thin(2, list(range(9))) + best(2) + text([0, 1, 3, 4]) + thin(2, [0])
        self.assertEqual(withheld.tables.answers(OnlyRead(calls)), withheld.tables.answers(calls))

    def test_the_same_a_second_time(self):
        calls = begin(2, 2, [1, 2, 3, 4]) + range_of(0, [0, 1, 3, 4]) + other(4, 6, 6, [0, 1, 3, 4]) + small(5)
        calls += safe(2, list(range(9))) + thin(2, list(range(9))) + best(2) + text([0, 1, 3, 4]) + safe(2, [])
        first = withheld.tables.answers(calls)
        self.assertEqual(withheld.tables.answers(calls), first)
        withheld.tables.answers(begin(1, 1, [7]))
        self.assertEqual(withheld.tables.answers(calls), first)

    def test_nothing_is_kept(self):
        withheld.tables.answers(begin(1, 1, [7]))
        self.assertEqual(withheld.tables.answers(value(0)), [1, -9])

    def test_what_is_given_back_is_the_callers(self):
        calls = begin(1, 1, [7]) + value(0)
        withheld.tables.answers(calls).clear()
        self.assertEqual(withheld.tables.answers(calls), [1, 0, 2, 0, 7])

    def test_three_hundred_calls(self):
        table = (2, 2, [1, 2, 3, 4])
        hidden = [0, 1, 3, 4]
        turn = [range_of(0, hidden), other(0, 3, 3, hidden), value(9), small(3), range_of(9, [9]), begin(0, 0, [])]
        calls = (turn * 50)[:299]
        expected = [[0, 0, 3], [1, 3, 0, 1, 6], [-4], [0, 0, 1], [-1], [-2]]
        self.assertEqual(ask_of(table, *calls), (expected * 50)[:299])

    def test_sixteen_thousand_numbers(self):
        table = (16, 16, [1000000] * 256)
        every = list(range(289))
        calls = [range_of(place, every) for place in range(52)]
        self.assertEqual(ask_of(table, *calls), [[1, 0]] * 52)

    def test_lists_of_three_hundred(self):
        table = (1, 1, [5])
        long = list(range(300))
        told = ask_of(table, range_of(0, long), other(0, 0, 0, long), begin(1, 1, [0] * 300, [0] * 300), value(0))
        self.assertEqual(told, [[-1], [-1], [-1], [0, 5]])


if __name__ == "__main__":
    unittest.main()
