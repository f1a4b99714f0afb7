import random
import unittest

from plain import (GREAT_TOP, TOP, SetSearch, all_places, ask, ask_of, begin, best, can_move, free_bounds, is_endless,
                   is_other, other, other_tables, range_of, safe, small, small_places, text, thin, value, with_margins)


def all_ranges(table, hidden):
    return ask_of(table, *[range_of(place, hidden) for place in all_places(table)])


def some_table(chance, rows, columns, k):
    blanks = [int(chance.random() < 0.1) for cell in range(rows * columns)]
    counts = [0 if blank else chance.choice([0, 1, k - 1, k, 2 * k, 500000]) for blank in blanks]
    return (rows, columns, counts, blanks)


def is_good(table, k, hidden):
    return ask_of(table, safe(k, hidden)) == [[1]]


class RangesAreJustWhatCanBe(unittest.TestCase):
    """F1"""

    def check(self, table, hidden, bound):
        found = other_tables(table, hidden, bound)
        own = with_margins(table)
        for place, answer in zip(all_places(table), all_ranges(table, hidden)):
            seen = sorted({amounts[place] for cells, amounts in found})
            least = answer[1]
            self.assertEqual(least, seen[0])
            self.assertLessEqual(least, own[place])
            if answer[0] == 1:
                self.assertEqual(len(answer), 2)
                # The search stops at its bound, but one circle can rise from the table itself up to it.
                near = own[place] + bound - max(table[2])
                self.assertGreater(near, own[place])
                self.assertEqual([n for n in seen if n <= near], list(range(least, near + 1)))
            else:
                self.assertEqual(answer[0], 0)
                self.assertEqual(seen, list(range(least, answer[2] + 1)), (table, hidden, place))

    def test_every_set_of_two_by_two(self):
        for counts, blanks, bound in (([1, 0, 0, 1], [0] * 4, 6), ([0, 1, 1, 0], [1, 0, 0, 0], 6)):
            for mask in range(512):
                hidden = [place for place in range(9) if mask >> place & 1]
                self.check((2, 2, counts, blanks), hidden, bound)

    def test_every_set_of_one_by_three(self):
        for mask in range(256):
            hidden = [place for place in range(8) if mask >> place & 1]
            self.check((1, 3, [2, 0, 1]), hidden, 8)
            self.check((3, 1, [2, 0, 1]), hidden, 8)

    def test_every_set_of_one_by_one(self):
        for mask in range(16):
            hidden = [place for place in range(4) if mask >> place & 1]
            self.check((1, 1, [2]), hidden, 6)
            self.check((1, 1, [0]), hidden, 6)
            self.check((1, 1, [0], [0]), hidden, 6)

    def test_some_sets_of_two_by_three(self):
        chance = random.Random(51)
        for turn in range(60):
            blanks = [int(chance.random() < 0.15) for cell in range(6)]
            counts = [0 if blank else int(chance.random() < 0.5) for blank in blanks]
            hidden = [place for place in range(12) if chance.random() < 0.6]
            self.check(chance.choice([(2, 3), (3, 2)]) + (counts, blanks), hidden, 7)

    def test_three_by_three_with_margins_published(self):
        chance = random.Random(52)
        for turn in range(40):
            table = (3, 3, [chance.randint(0, 2) for cell in range(9)])
            hidden = [place for place in (0, 1, 2, 4, 5, 6, 8, 9, 10) if chance.random() < 0.9]
            self.check(table, hidden, 6)

    def test_each_number_between_is_shown_by_other(self):
        chance = random.Random(53)
        for turn in range(30):
            rows, columns = chance.randint(2, 4), chance.randint(2, 4)
            table = (rows, columns, [chance.randint(0, 4) for cell in range(rows * columns)])
            hidden = [place for place in all_places(table) if chance.random() < 0.7]
            place = chance.choice(all_places(table))
            answer = ask_of(table, range_of(place, hidden))[0]
            least = answer[1]
            greatest = answer[2] if answer[0] == 0 else least + 40
            for number in range(least, greatest + 1):
                shown = ask_of(table, other(place, number, number, hidden))[0]
                self.assertEqual(shown[0], 1)
                self.assertTrue(is_other(table, hidden, shown[1:]))
                self.assertEqual(with_margins(table, shown[1:])[place], number)
            if least > 0:
                self.assertEqual(ask_of(table, other(place, 0, least - 1, hidden)), [[0]])
            if answer[0] == 0:
                self.assertEqual(ask_of(table, other(place, greatest + 1, GREAT_TOP, hidden)), [[0]])
                self.assertFalse(is_endless(table, hidden, place))
            else:
                self.assertTrue(is_endless(table, hidden, place))

    def test_ends_can_not_be_passed(self):
        chance = random.Random(54)
        for turn in range(80):
            rows, columns = chance.randint(1, 8), chance.randint(1, 8)
            blanks = [int(chance.random() < 0.2) for cell in range(rows * columns)]
            counts = [0 if blank else chance.choice([0, 1, 3, 50, 999999]) for blank in blanks]
            table = (rows, columns, counts, blanks)
            hidden = [place for place in all_places(table) if chance.random() < 0.6]
            bounds = free_bounds(table, hidden)
            place = chance.choice(all_places(table))
            answer = ask_of(table, range_of(place, hidden))[0]
            self.assertEqual(answer[0] == 1, is_endless(table, hidden, place))
            for end, rises in zip(answer[1:], (False, True)):
                shown = ask_of(table, other(place, end, end, hidden))[0]
                self.assertEqual(shown[0], 1)
                amounts = with_margins(table, shown[1:])
                self.assertEqual(amounts[place], end)
                self.assertFalse(can_move(table, amounts, bounds, place, rises))


class WithholdingMoreNeverTellsMore(unittest.TestCase):
    """F2"""

    def no_more_told(self, fewer, more):
        for one, another in zip(fewer, more):
            self.assertLessEqual(another[1], one[1])
            if one[0] == 1:
                self.assertEqual(another[0], 1)
            elif another[0] == 0:
                self.assertGreaterEqual(another[2], one[2])

    def test_every_set_of_two_by_two(self):
        for table in ((2, 2, [1, 0, 2, 3]), (2, 2, [0, 4, 1, 1], [1, 0, 0, 0])):
            told = []
            for mask in range(512):
                told.append(all_ranges(table, [place for place in range(9) if mask >> place & 1]))
            for mask in range(512):
                for place in range(9):
                    self.no_more_told(told[mask], told[mask | 1 << place])

    def test_growing_sets(self):
        chance = random.Random(55)
        for turn in range(6):
            rows, columns = chance.randint(3, 5), chance.randint(3, 5)
            table = (rows, columns, [chance.choice([0, 1, 2, 30, 1000000]) for cell in range(rows * columns)])
            order = all_places(table)
            chance.shuffle(order)
            before = all_ranges(table, [])
            for many in range(1, len(order) + 1):
                now = all_ranges(table, sorted(order[:many]))
                self.no_more_told(before, now)
                before = now


class AGoodSetIsShownByOther(unittest.TestCase):
    """F3"""

    def shows(self, table, k, place, hidden):
        """Whether other shows a table with 0 and one with k or more at the place."""
        told = ask_of(table, other(place, 0, 0, hidden), other(place, k, GREAT_TOP, hidden))
        for answer, least, most in zip(told, (0, k), (0, GREAT_TOP)):
            if answer != [0]:
                self.assertEqual(answer[0], 1)
                self.assertTrue(is_other(table, hidden, answer[1:]))
                self.assertTrue(least <= with_margins(table, answer[1:])[place] <= most)
        return [0] not in told

    def check(self, table, k, hidden):
        smalls = ask_of(table, small(k))[0][1:]
        answer = ask_of(table, safe(k, hidden))[0]
        if answer == [1]:
            for place in smalls:
                self.assertIn(place, hidden)
                self.assertTrue(self.shows(table, k, place, hidden), (table, k, hidden, place))
        else:
            self.assertIn(answer[1], smalls)
            for place in smalls[:smalls.index(answer[1])]:
                self.assertTrue(place in hidden and self.shows(table, k, place, hidden), (table, k, hidden, place))
            self.assertFalse(answer[1] in hidden and self.shows(table, k, answer[1], hidden), (table, k, hidden))
        return answer == [1]

    def test_every_set_of_two_by_two(self):
        for table, k in (((2, 2, [1, 20, 30, 40]), 21), ((2, 2, [1, 0, 5, 9], [0, 1, 0, 0]), 3)):
            for mask in range(512):
                self.check(table, k, [place for place in range(9) if mask >> place & 1])

    def test_some_sets(self):
        chance = random.Random(56)
        good = []
        for turn in range(120):
            k = chance.choice([2, 10, 1000])
            table = some_table(chance, chance.randint(1, 7), chance.randint(1, 7), k)
            smalls = small_places(table, k)
            share = chance.choice([0.2, 0.4, 0.8])
            hidden = [place for place in all_places(table) if place in smalls or chance.random() < share]
            good.append(self.check(table, k, hidden))
        self.assertTrue(20 < good.count(True) < 100)

    def test_sets_that_thin_and_best_answer(self):
        chance = random.Random(57)
        for turn in range(40):
            k = chance.choice([2, 10, 1000])
            table = some_table(chance, chance.randint(1, 6), chance.randint(1, 6), k)
            self.assertTrue(self.check(table, k, ask_of(table, thin(k, all_places(table)))[0][1:]))
            table = some_table(chance, *chance.choice([(2, 3), (3, 2), (1, 5), (5, 1)]), k)
            self.assertTrue(self.check(table, k, ask_of(table, best(k))[0][1:]))


class ThinLeavesNothingToTake(unittest.TestCase):
    """F4"""

    def check(self, table, k, hidden):
        answer = ask_of(table, thin(k, hidden))[0]
        if not is_good(table, k, hidden):
            self.assertEqual(answer, [-5])
            return
        self.assertEqual(answer[0], 0)
        left = answer[1:]
        smalls = small_places(table, k)
        self.assertEqual(left, sorted(set(left)))
        self.assertTrue(set(smalls) <= set(left) <= set(hidden))
        self.assertTrue(is_good(table, k, left), (table, k, hidden))
        for place in left:
            if place not in smalls:
                fewer = [which for which in left if which != place]
                self.assertFalse(is_good(table, k, fewer), (table, k, hidden, place))
        self.assertEqual(ask_of(table, thin(k, left)), [answer])

    def test_the_set_of_all_places(self):
        chance = random.Random(58)
        for turn in range(60):
            k = chance.choice([2, 3, 10, 1000])
            table = some_table(chance, chance.randint(1, 8), chance.randint(1, 8), k)
            self.check(table, k, all_places(table))

    def test_some_sets(self):
        chance = random.Random(59)
        for turn in range(100):
            k = chance.choice([2, 3, 10, 1000])
            table = some_table(chance, chance.randint(2, 7), chance.randint(2, 7), k)
            smalls = small_places(table, k)
            self.check(table, k, [place for place in all_places(table) if place in smalls or chance.random() < 0.85])


class NoGoodSetIsSmallerThanTheBest(unittest.TestCase):
    """F5"""

    def test_against_all_sets(self):
        chance = random.Random(60)
        for turn in range(30):
            rows, columns = chance.choice([(2, 2), (1, 4), (3, 1), (2, 3), (3, 2)])
            table = (rows, columns, [chance.choice([0, 1, 2, 2]) for cell in range(rows * columns)])
            search = SetSearch(table, 2)
            hidden = ask_of(table, best(2))[0][1:]
            self.assertEqual(search.unsafe(hidden), [])
            places = all_places(table)
            for mask in range(1 << len(places)):
                fewer = [place for place in places if mask >> place & 1]
                if len(fewer) < len(hidden) and set(search.small) <= set(fewer):
                    self.assertNotEqual(search.unsafe(fewer), [], (table, fewer))

    def test_never_larger_than_thinned(self):
        chance = random.Random(61)
        for turn in range(60):
            k = chance.choice([2, 3, 10, 1000])
            table = some_table(chance, *chance.choice([(2, 3), (3, 2), (1, 5), (5, 1), (2, 2)]), k)
            hidden, thinned = [answer[1:] for answer in ask_of(table, best(k), thin(k, all_places(table)))]
            self.assertTrue(is_good(table, k, hidden))
            self.assertLessEqual(len(hidden), len(thinned))
            self.assertEqual(ask_of(table, thin(k, hidden)), [[0] + hidden])


class WhatIsPublishedIsTheSame(unittest.TestCase):
    """F6"""

    def test_of_each_other_table(self):
        chance = random.Random(62)
        differing = 0
        for turn in range(150):
            table = some_table(chance, chance.randint(1, 6), chance.randint(1, 6), 10)
            hidden = [place for place in all_places(table) if chance.random() < 0.7]
            place = chance.choice(all_places(table))
            least = chance.choice([0, 1, 9, 400000])
            answer = ask_of(table, other(place, least, 900000, hidden))[0]
            if answer[0] == 1 and max(answer[1:]) <= 1000000:
                another = (table[0], table[1], answer[1:], table[3])
                differing += another != table
                self.assertEqual(ask_of(another, text(hidden)), ask_of(table, text(hidden)))
        self.assertGreater(differing, 50)

    def test_of_no_table_else(self):
        table = (2, 2, [1, 20, 30, 40])
        shown = ask_of(table, text([0, 1, 3, 4]))
        self.assertEqual(ask_of((2, 2, [0, 21, 31, 39]), text([0, 1, 3, 4])), shown)
        for another in ((2, 2, [2, 20, 30, 40]), (2, 2, [1, 20, 0, 70], [0, 0, 1, 0])):
            self.assertNotEqual(ask_of(another, text([0, 1, 3, 4])), shown)

    def test_of_the_two_tables_by_which_a_place_is_safe(self):
        table = (3, 3, [1, 20, 30, 4, 50, 60, 7, 80, 90])
        hidden = ask_of(table, thin(10, all_places(table)))[0][1:]
        shown = ask_of(table, text(hidden))
        for place in small_places(table, 10):
            for least, most in ((0, 0), (10, GREAT_TOP)):
                answer = ask_of(table, other(place, least, most, hidden))[0]
                self.assertEqual(answer[0], 1)
                self.assertEqual(ask_of((3, 3, answer[1:]), text(hidden)), shown)


class ARefusedCallChangesNothing(unittest.TestCase):
    """F7"""

    def test_each_refusal(self):
        table = (2, 3, [1, 0, 3, 4, 5, 6], [0, 1, 0, 0, 0, 0])
        hidden = [0, 2, 3, 4, 6, 8]
        questions = [value(place) for place in range(13)] + [small(3), small(100)]
        questions += [range_of(place, hidden) for place in range(12)]
        questions += [other(place, 2, 9, hidden) for place in range(12)]
        questions += [safe(2, hidden), safe(4, hidden), safe(2, range(12)), thin(2, range(12)), best(3), text(hidden)]
        expected = ask_of(table, *questions)
        refusals = [
            (begin(0, 1, [0]), -2), (begin(1, 17, [0] * 17), -2), (begin(1, 1, []), -1), (begin(1, 1, [5], [1]), -1),
            (begin(1, 1, [5], [2]), -1), (begin(1, 1, [1000001]), -1), (begin(1, 1, [5], []), -1),
            (value(12), -4), (value(TOP), -4), (small(1), -2), (small(1001), -2), (small(TOP), -2),
            (range_of(0, [1, 0]), -1), (range_of(0, [12]), -1), (range_of(12, []), -4),
            (other(0, 0, 9, [3, 3]), -1), (other(0, 0, 9, [TOP]), -1), (other(TOP, 0, 9, []), -4),
            (safe(3, [1, 0]), -1), (safe(3, [TOP]), -1), (safe(1, hidden), -2), (safe(1001, [12]), -1),
            (thin(3, [1, 1]), -1), (thin(3, [12]), -1), (thin(TOP, hidden), -2), (thin(2, []), -5), (thin(4, [0]), -5),
            (best(0), -2), (best(1), -2), (best(1001), -2), (text([2, 1]), -1), (text([TOP]), -1),
        ]
        for call, number in refusals:
            told = ask_of(table, call, *questions)
            self.assertEqual(told[0], [number])
            self.assertEqual(told[1:], expected)
        self.assertEqual(ask_of(table, *[call for call, number in refusals], *questions)[len(refusals):], expected)

    def test_too_many_places(self):
        table = (3, 3, [1, 20, 30, 4, 50, 60, 7, 80, 90])
        every = all_places(table)
        questions = [safe(10, every), thin(10, every), text([0, 5]), small(10), value(15), safe(10, [0, 1, 4, 5])]
        told = ask_of(table, *questions, best(10), best(1), *questions)
        self.assertEqual(told[6:8], [[-6], [-2]])
        self.assertEqual(told[8:], told[:6])

    def test_before_a_begin(self):
        told = ask(value(0), begin(1, 1, [5], [1]), small(2), begin(1, 1, [5]), value(0))
        self.assertEqual(told, [[-9], [-1], [-9], [0], [0, 5]])

    def test_calls_that_answer_change_nothing_either(self):
        table = (2, 2, [1, 2, 3, 4])
        hidden = [0, 1, 3, 4]
        calls = [range_of(0, hidden), other(0, 3, 3, hidden), other(0, 9, 9, hidden), value(0), value(8)]
        calls += [safe(2, hidden), safe(2, [0]), thin(2, range(9)), best(2), text(hidden), text([])]
        self.assertEqual(ask_of(table, *(calls * 3)), ask_of(table, *calls) * 3)


if __name__ == "__main__":
    unittest.main()
