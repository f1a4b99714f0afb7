import random
import unittest

from plain import TOP, SetSearch, all_places, ask_of, safe, small_places, thin

# 1 20 | 21, 30 40 | 70, 31 60 | 91
SQUARE = (2, 2, [1, 20, 30, 40])
CELLS = [0, 1, 3, 4]


class ThinTest(unittest.TestCase):

    def test_the_set_of_all_places(self):
        self.assertEqual(ask_of(SQUARE, thin(3, list(range(9)))), [[0, 0, 2, 6, 8]])

    def test_from_the_lowest_on(self):
        # Without 1 the circle 0 2 5 3 does; without 1 and 2 none would; from there on 3 is not needed.
        told = ask_of(SQUARE, thin(3, [0, 1, 2, 3, 4, 5]), thin(3, [0, 1, 3, 4, 6, 7]), thin(3, [0, 1, 3, 4, 5, 8]))
        self.assertEqual(told, [[0, 0, 2, 3, 5], [0, 0, 1, 6, 7], [0, 0, 1, 3, 4]])

    def test_nothing_can_be_taken(self):
        told = ask_of(SQUARE, thin(3, CELLS), thin(3, [0, 2, 6, 8]), thin(2, [0, 2, 3, 5]))
        self.assertEqual(told, [[0] + CELLS, [0, 0, 2, 6, 8], [0, 0, 2, 3, 5]])

    def test_small_places_are_not_taken(self):
        every = list(range(9))
        self.assertEqual(ask_of((2, 2, [1, 1, 1, 1]), thin(1000, every)), [[0] + every])
        # 2 2 | 4, 2 2 | 4, 4 4 | 8
        told = ask_of((2, 2, [2, 2, 2, 2]), thin(2, every), thin(3, every), thin(4, every), thin(5, every),
                      thin(8, every), thin(9, every))
        self.assertEqual(told, [[0], [0] + CELLS, [0] + CELLS, [0] + every[:8], [0] + every[:8], [0] + every])

    def test_without_a_small_place_all_are_taken(self):
        for table in ((2, 2, [5, 6, 7, 8]), (2, 2, [0, 0, 0, 0]), (2, 2, [0, 5, 5, 0], [1, 0, 0, 1])):
            told = ask_of(table, thin(5, list(range(9))), thin(2, CELLS), thin(2, [8]), thin(5, []))
            self.assertEqual(told, [[0]] * 4)

    def test_blank_cells_are_taken(self):
        table = (2, 3, [1, 0, 20, 30, 0, 40], [0, 1, 0, 0, 1, 0])
        self.assertEqual(ask_of(table, thin(2, [0, 1, 2, 4, 5, 6])), [[0, 0, 2, 4, 6]])

    def test_k_at_its_ends(self):
        table = (2, 2, [999, 1000, 5000, 5000])
        told = ask_of(table, thin(1000, CELLS), thin(999, CELLS), thin(1000, list(range(9))), thin(2, CELLS))
        self.assertEqual(told, [[0] + CELLS, [0], [0, 0, 2, 6, 8], [0]])

    def test_not_good(self):
        told = ask_of(SQUARE, thin(3, []), thin(3, [0]), thin(3, [1, 3, 4]), thin(22, CELLS), thin(21, CELLS),
                      thin(1000, [0, 1, 2, 3, 4, 5, 6, 7]))
        self.assertEqual(told, [[-5], [-5], [-5], [-5], [0] + CELLS, [-5]])

    def test_refusals(self):
        wrong = ([1, 0], [0, 0], [0, 1, 1], [9], [0, TOP], [TOP], list(range(10)), list(range(300)), [4, 3, 9])
        for hidden in wrong:
            told = ask_of(SQUARE, thin(3, hidden), thin(1, hidden), thin(TOP, hidden), thin(3, CELLS))
            self.assertEqual(told, [[-1], [-1], [-1], [0] + CELLS])
        for k in (0, 1, 1001, TOP):
            # The empty set isn't good for any k that may be, so that -2 stands ahead of -5.
            told = ask_of(SQUARE, thin(k, CELLS), thin(k, []), thin(k, [3, 3]), thin(3, []), thin(3, CELLS))
            self.assertEqual(told, [[-2], [-2], [-1], [-5], [0] + CELLS])


class ThinSearchTest(unittest.TestCase):
    """Compared with taking place by place, good sets told by a plain search or by the call safe."""

    def check(self, table, k, sets):
        search = SetSearch(table, k)
        for hidden, answer in zip(sets, ask_of(table, *[thin(k, hidden) for hidden in sets])):
            expected = [-5] if search.unsafe(hidden) else [0] + search.thin(hidden)
            self.assertEqual(answer, expected, (table, k, hidden))

    def test_every_set_of_two_by_two(self):
        sets = [[place for place in range(9) if mask >> place & 1] for mask in range(512)]
        for table, k in (((2, 2, [1, 2, 2, 3]), 2), ((2, 2, [2, 0, 2, 1]), 2), ((2, 2, [0, 2, 1, 3], [1, 0, 0, 0]), 2),
                         ((2, 2, [2, 3, 3, 3]), 3)):
            for some in (sets[:256], sets[256:]):
                self.check(table, k, some)

    def test_some_sets_of_other_sizes(self):
        chance = random.Random(81)
        for turn in range(60):
            rows, columns = chance.choice([(1, 1), (1, 2), (2, 1), (1, 4), (4, 1), (2, 3), (3, 2), (2, 3), (3, 2)])
            blanks = [int(chance.random() < 0.1) for cell in range(rows * columns)]
            counts = [0 if blank else chance.choice([0, 1, 2, 2]) for blank in blanks]
            table = (rows, columns, counts, blanks)
            sets = [[place for place in all_places(table) if chance.random() < share]
                    for share in (0.7, 0.8, 0.9, 0.95, 1)]
            self.check(table, chance.choice([2, 2, 2, 3]), sets)

    def test_by_the_call_safe(self):
        chance = random.Random(82)
        for turn in range(60):
            rows, columns = chance.randint(2, 6), chance.randint(2, 6)
            k = chance.choice([2, 3, 10, 500, 1000])
            blanks = [int(chance.random() < 0.1) for cell in range(rows * columns)]
            counts = [0 if blank else chance.choice([0, 1, k - 1, k, k + 1, 3 * k, 1000000]) for blank in blanks]
            table = (rows, columns, counts, blanks)
            smalls = small_places(table, k)
            hidden = [place for place in all_places(table) if place in smalls or chance.random() < 0.95]
            self.assertEqual(ask_of(table, thin(k, hidden))[0], self.expected(table, k, smalls, hidden))

    def expected(self, table, k, smalls, hidden):
        if ask_of(table, safe(k, hidden)) != [[1]]:
            return [-5]
        left = list(hidden)
        for place in hidden:
            fewer = [which for which in left if which != place]
            if place not in smalls and ask_of(table, safe(k, fewer)) == [[1]]:
                left = fewer
        return [0] + left


if __name__ == "__main__":
    unittest.main()
