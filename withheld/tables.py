"""The calls on an object that holds a table: begin, value, small, range and other."""

from withheld.nets import DOWN, UP, Net

BEGIN = 0
VALUE = 1
SMALL = 2
RANGE = 3
OTHER = 4

# By a call's number: how many whole numbers, then how many lists of them, are handed in with it.
SHAPES = {0: (2, 2), 1: (1, 0), 2: (1, 0), 3: (1, 1), 4: (3, 1)}

WRONG_LIST = -1
OUT_OF_BOUNDS = -2
NO_PLACE = -4
NO_TABLE = -9

MOST_LINES = 16
MOST_COUNT = 1000000
LEAST_BOUND = 2
MOST_BOUND = 1000


class Table:

    def __init__(self, rows, columns, counts, blanks):
        self.rows = rows
        self.columns = columns
        self.amounts = []
        self.blank_places = {}
        for row in range(rows):
            cells = counts[row * columns:(row + 1) * columns]
            self.amounts.extend(cells + [sum(cells)])
        sums = [sum(counts[column::columns]) for column in range(columns)]
        self.amounts.extend(sums + [sum(sums)])
        for place, blank in zip(self.cell_places(), blanks):
            if blank == 1:
                self.blank_places[place] = True

    def cell_places(self):
        width = self.columns + 1
        return [place for place in range(self.rows * width) if place % width != self.columns]

    def has_place(self, place):
        return place < len(self.amounts)

    # A blank cell can't move though it is hidden: everybody knows that it is 0.
    def net(self, hidden):
        free = [place for place in hidden if place not in self.blank_places]
        return Net(self.rows, self.columns, self.amounts, free)


class CallReader:

    def __init__(self, calls):
        self.calls = calls
        self.position = 0

    def has_more(self):
        return self.position < len(self.calls)

    def read_number(self):
        number = self.calls[self.position]
        self.position = self.position + 1
        return number

    def read_list(self):
        length = self.read_number()
        start = self.position
        self.position = start + length
        return self.calls[start:self.position]

    # The call's number, its whole numbers, its lists. All are read even of a call that will be refused,
    # for the next call begins behind them.
    def read_call(self):
        call = self.read_number()
        shape = SHAPES[call]
        numbers = [self.read_number() for nth in range(shape[0])]
        lists = [self.read_list() for nth in range(shape[1])]
        return (call, numbers, lists)


# None if the begin isn't refused.
def begin_refusal(rows, columns, counts, blanks):
    if not 1 <= rows <= MOST_LINES or not 1 <= columns <= MOST_LINES:
        return OUT_OF_BOUNDS
    if len(counts) != rows * columns or len(blanks) != rows * columns:
        return WRONG_LIST
    for count, blank in zip(counts, blanks):
        if count > MOST_COUNT or blank > 1 or (blank == 1 and count != 0):
            return WRONG_LIST
    return None


def is_set(table, numbers):
    before = -1
    for number in numbers:
        if number <= before or not table.has_place(number):
            return False
        before = number
    return True


def value_answer(table, place):
    if not table.has_place(place):
        return [NO_PLACE]
    return [0, table.amounts[place]]


def small_answer(table, bound):
    if not LEAST_BOUND <= bound <= MOST_BOUND:
        return [OUT_OF_BOUNDS]
    return [0] + [place for place, amount in enumerate(table.amounts) if 1 <= amount < bound]


def range_answer(table, place, hidden):
    if not is_set(table, hidden):
        return [WRONG_LIST]
    if not table.has_place(place):
        return [NO_PLACE]
    net = table.net(hidden)
    net.drive(place, DOWN)
    least = net.amounts[place]
    if net.drive(place, UP):
        return [1, least]
    return [0, least, net.amounts[place]]


def other_answer(table, place, least, most, hidden):
    if not is_set(table, hidden):
        return [WRONG_LIST]
    if not table.has_place(place):
        return [NO_PLACE]
    if least > most:
        return [0]
    net = table.net(hidden)
    if not net.bring_within(place, least, most):
        return [0]
    cells = table.cell_places()
    # Each cell in turn is held at its least, so no other table that is left comes before this one.
    for cell in cells:
        net.settle_lowest(cell)
    return [1] + [net.amounts[cell] for cell in cells]


# The object that the calls are made on.
class Holder:

    def __init__(self):
        self.table = None

    def begin(self, rows, columns, counts, blanks):
        refusal = begin_refusal(rows, columns, counts, blanks)
        if refusal is not None:
            return [refusal]
        self.table = Table(rows, columns, counts, blanks)
        return [0]

    def answer(self, call, numbers, lists):
        if call == BEGIN:
            return self.begin(numbers[0], numbers[1], lists[0], lists[1])
        if self.table is None:
            return [NO_TABLE]
        if call == VALUE:
            return value_answer(self.table, numbers[0])
        if call == SMALL:
            return small_answer(self.table, numbers[0])
        if call == RANGE:
            return range_answer(self.table, numbers[0], lists[0])
        return other_answer(self.table, numbers[0], numbers[1], numbers[2], lists[0])


def answers(calls):
    reader = CallReader(calls)
    holder = Holder()
    told = []
    while reader.has_more():
        call = reader.read_call()
        answer = holder.answer(call[0], call[1], call[2])
        told.append(len(answer))
        told.extend(answer)
    return told
