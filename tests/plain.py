"""What the tests share: calls written out, answers taken apart, and plain ways to check them."""

from itertools import product

from withheld.tables import answers

TOP = 4294967295
GREAT_TOP = 18446744073709551615


def begin(rows, columns, counts, blanks=None):
    if blanks is None:
        blanks = [0] * len(counts)
    return [0, rows, columns, len(counts)] + list(counts) + [len(blanks)] + list(blanks)


def value(place):
    return [1, place]


def small(k):
    return [2, k]


def range_of(place, hidden):
    return [3, place, len(hidden)] + list(hidden)


def other(place, least, most, hidden):
    return [4, place, least, most, len(hidden)] + list(hidden)


def safe(k, hidden):
    return [5, k, len(hidden)] + list(hidden)


def thin(k, hidden):
    return [6, k, len(hidden)] + list(hidden)


def best(k):
    return [7, k]


def text(hidden):
    return [8, len(hidden)] + list(hidden)


def ask(*calls):
    """The answers to the calls, on one new object, each as its own list."""
    flat = answers([number for call in calls for number in call])
    told = []
    at = 0
    while at < len(flat):
        told.append(flat[at + 1:at + 1 + flat[at]])
        at += 1 + flat[at]
    if len(told) != len(calls) or at != len(flat):
        raise AssertionError(f"{len(calls)} calls, but answered was {flat}")
    return told


def ask_of(table, *calls):
    """The answers to the calls on an object that holds the table."""
    told = ask(begin(*table), *calls)
    if told[0] != [0]:
        raise AssertionError(f"begin answered {told[0]}")
    return told[1:]


def all_places(table):
    return list(range((table[0] + 1) * (table[1] + 1)))


def cell_places(table):
    return [row * (table[1] + 1) + column for row in range(table[0]) for column in range(table[1])]


def blank_cells(table):
    marks = table[3] if len(table) > 3 else [0] * len(table[2])
    return [place for place, mark in zip(cell_places(table), marks) if mark == 1]


def with_margins(table, cells=None):
    """What is at each place of a table of that size with those cells."""
    rows, columns = table[0], table[1]
    cells = table[2] if cells is None else cells
    lines = [list(cells[row * columns:(row + 1) * columns]) for row in range(rows)]
    lines.append([sum(column) for column in zip(*lines)])
    return [number for line in lines for number in line + [sum(line)]]


def is_other(table, hidden, cells):
    own, his = with_margins(table), with_margins(table, cells)
    blank = blank_cells(table)
    return (
        len(cells) == len(table[2])
        and all(count >= 0 for count in cells)
        and all(his[place] == 0 for place in blank)
        and all(his[place] == own[place] for place in all_places(table) if place not in hidden)
    )


def other_tables(table, hidden, bound):
    """All other tables with hidden counts up to the bound, first ones first: for small tables."""
    rows, columns = table[0], table[1]
    own = with_margins(table)
    blank = blank_cells(table)
    seen = [place for place in all_places(table) if place not in hidden]
    lines = []
    for row in range(rows):
        start = row * (columns + 1)
        choices = []
        for place in range(start, start + columns):
            free = place in hidden and place not in blank
            choices.append(range(bound + 1) if free else [own[place]])
        row_sum = start + columns
        lines.append([line for line in product(*choices) if row_sum in hidden or sum(line) == own[row_sum]])
    found = []
    for chosen in product(*lines):
        cells = [count for line in chosen for count in line]
        his = with_margins(table, cells)
        if all(his[place] == own[place] for place in seen):
            found.append((cells, his))
    return found


def can_move(table, amounts, bounds, place, rises):
    """Whether the place can be moved by a circle of moves, each within its place's bounds.

    bounds tells the least and the greatest (None: endless) of each place that may move at all. Written
    apart from the program: knots are marked till no more are, walking over all places each time.
    """
    width = table[1] + 1

    def ends(which):
        row, column = divmod(which, width)
        back = (row == table[0]) != (column == table[1])
        knots = (("row", row), ("column", column))
        return knots[::-1] if back else knots

    def may(which, up):
        low, high = bounds[which]
        return (high is None or amounts[which] < high) if up else amounts[which] > low

    if place not in bounds or not may(place, rises):
        return False
    goal, start = ends(place) if rises else ends(place)[::-1]
    marked = {start}
    grown = True
    while grown:
        grown = False
        for which in bounds:
            tail, head = ends(which)
            if which == place:
                continue
            if tail in marked and head not in marked and may(which, True):
                marked.add(head)
                grown = True
            if head in marked and tail not in marked and may(which, False):
                marked.add(tail)
                grown = True
    return goal in marked


def free_bounds(table, hidden):
    blank = blank_cells(table)
    return {place: (0, None) for place in hidden if place not in blank}


def is_endless(table, hidden, place):
    """Whether the place can rise by moves that only rise, so that nothing ever stops it."""
    nothing = [0] * len(all_places(table))
    return can_move(table, nothing, free_bounds(table, hidden), place, True)


def is_first(table, hidden, place, least, most, cells):
    """Whether no other table with from least to most at the place comes before the cells'.

    None does just when each cell in turn can't go down while those before it stay.
    """
    amounts = with_margins(table, cells)
    bounds = free_bounds(table, hidden)
    if place in bounds:
        bounds[place] = (least, most)
    for cell in cell_places(table):
        if can_move(table, amounts, bounds, cell, False):
            return False
        bounds.pop(cell, None)
    return True


def small_places(table, k):
    return [place for place, amount in enumerate(with_margins(table)) if 1 <= amount < k]


class SetSearch:
    """What is told of a small table's sets, by a search through all tables with counts up to a bound.

    Of the circles by which an other table differs from the table only those through the small place are
    needed to bring 0 or k there, and these change no count by more than k.
    """

    def __init__(self, table, k):
        self.amounts = with_margins(table)
        self.small = small_places(table, k)
        self.none = {place: set() for place in self.small}
        self.many = {place: set() for place in self.small}
        blank = blank_cells(table)
        counts = range(max(table[2]) + k + 1)
        for cells in product(*[[0] if place in blank else counts for place in cell_places(table)]):
            his = with_margins(table, cells)
            changed = frozenset(place for place, amount in enumerate(self.amounts) if his[place] != amount)
            for place in self.small:
                if his[place] == 0:
                    self.none[place].add(changed)
                elif his[place] >= k:
                    self.many[place].add(changed)

    def is_safe(self, place, hidden):
        hidden = set(hidden)
        return (
            place in hidden
            and any(changed <= hidden for changed in self.none[place])
            and any(changed <= hidden for changed in self.many[place])
        )

    def unsafe(self, hidden):
        return [place for place in self.small if not self.is_safe(place, hidden)]

    def thin(self, hidden):
        left = list(hidden)
        for place in hidden:
            fewer = [which for which in left if which != place]
            if place not in self.small and not self.unsafe(fewer):
                left = fewer
        return left

    def best(self):
        places = range(len(self.amounts))
        good = []
        for kept in product((False, True), repeat=len(places)):
            hidden = [place for place in places if kept[place]]
            if set(self.small) <= set(hidden) and not self.unsafe(hidden):
                good.append((len(hidden), sum(self.amounts[place] for place in hidden), hidden))
        return min(good)[2]
