import unittest

import withheld.tables
from plain import GREAT_TOP, TOP, ask_of, begin, other, range_of, small, value


class InterfaceTest(unittest.TestCase):

    def test_numbers_one_behind_another(self):
        calls = [1, 0, 0, 1, 2, 2, 3, 4, 2, 0, 0, 1, 5, 1, 6, 2, 4, 3, 0, 2, 0, 3, 4, 0, 0, 9, 2, 0, 3, 2, 1, 3, 0, 0]
        expected = [1, -9, 1, 0, 2, 0, 7, 1, -4, 3, 0, 0, 3, 3, 0, 3, 3, 3, 1, 3, 4, 1, -2, 3, 0, 3, 3]
        self.assertEqual(withheld.tables.answers(calls), expected)

    def test_an_endless_greatest_is_not_told(self):
        calls = [0, 1, 1, 1, 5, 1, 0, 3, 0, 4, 0, 1, 2, 3, 4, 0, 7, 7, 4, 0, 1, 2, 3, 4, 0, 2, 1, 0]
        self.assertEqual(withheld.tables.answers(calls), [1, 0, 2, 1, 0, 2, 1, 7, 1, 0])

    def test_one_call(self):
        self.assertEqual(withheld.tables.answers([0, 1, 1, 1, 5, 1, 0]), [1, 0])
        self.assertEqual(withheld.tables.answers([0, 1, 1, 0, 0]), [1, -1])
        self.assertEqual(withheld.tables.answers([1, TOP]), [1, -9])

    def test_whole_numbers_alone(self):
        every = list(range(9))
        calls = begin(2, 2, [1, 0, 3, 4], [0, 1, 0, 0]) + value(1) + small(4) + range_of(1, every)
        calls += range_of(0, every) + other(0, 0, 9, every) + other(0, 9, 0, []) + value(TOP) + small(0)
        told = withheld.tables.answers(calls)
        self.assertIs(type(told), list)
        self.assertEqual({type(number) for number in told}, {int})

    def test_handed_in_is_not_changed(self):
        every = list(range(9))
        calls = begin(2, 2, [1, 2, 3, 4]) + range_of(0, [0, 1, 3, 4]) + other(0, 0, 0, every) + range_of(0, [3, 3])
        calls += begin(2, 2, [1], []) + other(4, 2, GREAT_TOP, [0, 1, 3, 4]) + value(0)
        before = list(calls)
        withheld.tables.answers(calls)
        self.assertEqual(calls, before)

    def test_handed_in_is_only_read(self):
        class OnlyRead(list):
            def changed(self, *given):
                raise AssertionError("what was handed in is changed")

            __setitem__ = __delitem__ = __iadd__ = __imul__ = changed
            append = extend = insert = pop = remove = clear = sort = reverse = changed

        calls = begin(2, 2, [1, 2, 3, 4]) + range_of(0, [0, 1, 3, 4]) + other(0, 0, 0, list(range(9))) + value(0)
        self.assertEqual(withheld.tables.answers(OnlyRead(calls)), withheld.tables.answers(calls))

    def test_the_same_a_second_time(self):
        calls = begin(2, 2, [1, 2, 3, 4]) + range_of(0, [0, 1, 3, 4]) + other(4, 6, 6, [0, 1, 3, 4]) + small(5)
        first = withheld.tables.answers(calls)
        self.assertEqual(withheld.tables.answers(calls), first)
        withheld.tables.answers(begin(1, 1, [7]))
        self.assertEqual(withheld.tables.answers(calls), first)

    def test_nothing_is_kept(self):
        withheld.tables.answers(begin(1, 1, [7]))
        self.assertEqual(withheld.tables.answers(value(0)), [1, -9])

    def test_what_is_given_back_is_the_callers(self):
        calls = begin(1, 1, [7]) + value(0)
        withheld.tables.answers(calls).clear()
        self.assertEqual(withheld.tables.answers(calls), [1, 0, 2, 0, 7])

    def test_three_hundred_calls(self):
        table = (2, 2, [1, 2, 3, 4])
        hidden = [0, 1, 3, 4]
        turn = [range_of(0, hidden), other(0, 3, 3, hidden), value(9), small(3), range_of(9, [9]), begin(0, 0, [])]
        calls = (turn * 50)[:299]
        expected = [[0, 0, 3], [1, 3, 0, 1, 6], [-4], [0, 0, 1], [-1], [-2]]
        self.assertEqual(ask_of(table, *calls), (expected * 50)[:299])

    def test_sixteen_thousand_numbers(self):
        table = (16, 16, [1000000] * 256)
        every = list(range(289))
        calls = [range_of(place, every) for place in range(52)]
        self.assertEqual(ask_of(table, *calls), [[1, 0]] * 52)

    def test_lists_of_three_hundred(self):
        table = (1, 1, [5])
        long = list(range(300))
        told = ask_of(table, range_of(0, long), other(0, 0, 0, long), begin(1, 1, [0] * 300, [0] * 300), value(0))
        self.assertEqual(told, [[-1], [-1], [-1], [0, 5]])


if __name__ == "__main__":
    unittest.main()
