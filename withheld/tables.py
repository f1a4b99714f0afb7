"""The calls on an object that holds a table: begin, value, small, range, other, safe, thin, best and text."""

from withheld.nets import DOWN, UP, Net, Proofs

BEGIN = 0
VALUE = 1
SMALL = 2
RANGE = 3
OTHER = 4
SAFE = 5
THIN = 6
BEST = 7
TEXT = 8

# By a call's number: how many whole numbers, then how many lists of them, are handed in with it.
SHAPES = {0: (2, 2), 1: (1, 0), 2: (1, 0), 3: (1, 1), 4: (3, 1), 5: (1, 1), 6: (1, 1), 7: (1, 0), 8: (0, 1)}

WRONG_LIST = -1
OUT_OF_BOUNDS = -2
NO_PLACE = -4
NOT_GOOD = -5
TOO_MANY_PLACES = -6
NO_TABLE = -9

MOST_LINES = 16
MOST_COUNT = 1000000
LEAST_BOUND = 2
MOST_BOUND = 1000
MOST_BEST_PLACES = 12


class Table:

    def __init__(self, rows, columns, counts, blanks):
        self.rows = rows
        self.columns = columns
        self.amounts = []
        self.blank_places = {}
        for row in range(rows):
            cells = counts[row * columns:(row + 1) * columns]
            self.amounts.extend(cells + [sum(cells)])
        sums = [sum(counts[column::columns]) for column in range(columns)]
        self.amounts.extend(sums + [sum(sums)])
        for place, blank in zip(self.cell_places(), blanks):
            if blank == 1:
                self.blank_places[place] = True

    def all_places(self):
        return list(range(len(self.amounts)))

    def cell_places(self):
        width = self.columns + 1
        return [place for place in range(self.rows * width) if place % width != self.columns]

    def has_place(self, place):
        return place < len(self.amounts)

    def is_small(self, place, bound):
        return 1 <= self.amounts[place] < bound

    def small_places(self, bound):
        return [place for place in self.all_places() if self.is_small(place, bound)]

    # A blank cell can't move though it is hidden: everybody knows that it is 0.
    def movable(self, places):
        return [place for place in places if place not in self.blank_places]

    def make_net(self, hidden):
        return Net(self.rows, self.columns, self.amounts, self.movable(hidden))

    # True if one of the hidden places, none of them blank, is the only one in its row or column: what is
    # published there tells what it is.
    def has_lone_place(self, hidden):
        rows = [place // (self.columns + 1) for place in hidden]
        columns = [place % (self.columns + 1) for place in hidden]
        return 1 in [rows.count(row) for row in rows] or 1 in [columns.count(column) for column in columns]


class CallReader:

    def __init__(self, calls):
        self.calls = calls
        self.position = 0

    def has_more(self):
        return self.position < len(self.calls)

    def read_number(self):
        number = self.calls[self.position]
        self.position = self.position + 1
        return number

    def read_list(self):
        length = self.read_number()
        start = self.position
        self.position = start + length
        return self.calls[start:self.position]

    # The call's number, its whole numbers, its lists. All are read even of a call that will be refused,
    # for the next call begins behind them.
    def read_call(self):
        call = self.read_number()
        shape = SHAPES[call]
        numbers = [self.read_number() for nth in range(shape[0])]
        lists = [self.read_list() for nth in range(shape[1])]
        return (call, numbers, lists)


# None if the begin isn't refused.
def begin_refusal(rows, columns, counts, blanks):
    if not 1 <= rows <= MOST_LINES or not 1 <= columns <= MOST_LINES:
        return OUT_OF_BOUNDS
    if len(counts) != rows * columns or len(blanks) != rows * columns:
        return WRONG_LIST
    for count, blank in zip(counts, blanks):
        if count > MOST_COUNT or blank > 1 or (blank == 1 and count != 0):
            return WRONG_LIST
    return None


def is_set(table, numbers):
    before = -1
    for number in numbers:
        if number <= before or not table.has_place(number):
            return False
        before = number
    return True


def is_bound(number):
    return LEAST_BOUND <= number <= MOST_BOUND


def value_answer(table, place):
    if not table.has_place(place):
        return [NO_PLACE]
    return [0, table.amounts[place]]


def small_answer(table, bound):
    if not is_bound(bound):
        return [OUT_OF_BOUNDS]
    return [0] + table.small_places(bound)


def range_answer(table, place, hidden):
    if not is_set(table, hidden):
        return [WRONG_LIST]
    if not table.has_place(place):
        return [NO_PLACE]
    net = table.make_net(hidden)
    net.drive(place, DOWN)
    least = net.amounts[place]
    if net.drive(place, UP):
        return [1, least]
    return [0, least, net.amounts[place]]


def other_answer(table, place, least, most, hidden):
    if not is_set(table, hidden):
        return [WRONG_LIST]
    if not table.has_place(place):
        return [NO_PLACE]
    if least > most:
        return [0]
    net = table.make_net(hidden)
    if not net.bring_within(place, least, most):
        return [0]
    cells = table.cell_places()
    # Each cell in turn is held at its least, so no other table that is left comes before this one.
    for cell in cells:
        net.settle_lowest(cell)
    return [1] + [net.amounts[cell] for cell in cells]


# None if the set that the proofs are of is good.
def lowest_unsafe(table, proofs):
    for place in table.small_places(proofs.bound):
        if not proofs.prove(place):
            return place
    return None


def safe_answer(table, bound, hidden):
    if not is_set(table, hidden):
        return [WRONG_LIST]
    if not is_bound(bound):
        return [OUT_OF_BOUNDS]
    unsafe = lowest_unsafe(table, Proofs(table.make_net(hidden), bound))
    return [1] if unsafe is None else [0, unsafe]


def thin_answer(table, bound, hidden):
    if not is_set(table, hidden):
        return [WRONG_LIST]
    if not is_bound(bound):
        return [OUT_OF_BOUNDS]
    proofs = Proofs(table.make_net(hidden), bound)
    if lowest_unsafe(table, proofs) is not None:
        return [NOT_GOOD]
    left = []
    for place in hidden:
        if table.is_small(place, bound) or not proofs.publish(place):
            left.append(place)
    return [0] + left


def with_one_more(sets, places):
    longer = []
    for chosen in sets:
        for place in places:
            if len(chosen) == 0 or place > chosen[-1]:
                longer.append(chosen + [place])
    return longer


# A lone place is small and isn't safe, or it is hidden in vain, so that no best set has one.
def may_be_best(table, bound, hidden):
    if table.has_lone_place(hidden):
        return False
    return lowest_unsafe(table, Proofs(table.make_net(hidden), bound)) is None


# Blank cells are no part of it, for they are never hidden but in vain. It ends, for the set of all other
# places is good.
def best_set(table, bound):
    needed = table.small_places(bound)
    spare = [place for place in table.movable(table.all_places()) if place not in needed]
    level = [[]]
    while True:
        for added in sorted(level, key=lambda places: (sum([table.amounts[place] for place in places]), places)):
            hidden = sorted(needed + added)
            if may_be_best(table, bound, hidden):
                return hidden
        level = with_one_more(level, spare)


def best_answer(table, bound):
    if not is_bound(bound):
        return [OUT_OF_BOUNDS]
    if len(table.amounts) > MOST_BEST_PLACES:
        return [TOO_MANY_PLACES]
    return [0] + best_set(table, bound)


def text_answer(table, hidden):
    if not is_set(table, hidden):
        return [WRONG_LIST]
    words = [str(amount) for amount in table.amounts]
    for place in hidden:
        words[place] = "."
    for place in table.blank_places:
        words[place] = "-"
    width = table.columns + 1
    lines = [" ".join(words[start:start + width]) + "\n" for start in range(0, len(words), width)]
    return [0] + [ord(sign) for sign in "".join(lines)]


# The object that the calls are made on.
class Holder:

    def __init__(self):
        self.table = None

    def begin(self, rows, columns, counts, blanks):
        refusal = begin_refusal(rows, columns, counts, blanks)
        if refusal is not None:
            return [refusal]
        self.table = Table(rows, columns, counts, blanks)
        return [0]

    def answer(self, call, numbers, lists):
        if call == BEGIN:
            return self.begin(numbers[0], numbers[1], lists[0], lists[1])
        if self.table is None:
            return [NO_TABLE]
        if call == VALUE:
            return value_answer(self.table, numbers[0])
        if call == SMALL:
            return small_answer(self.table, numbers[0])
        if call == RANGE:
            return range_answer(self.table, numbers[0], lists[0])
        if call == OTHER:
            return other_answer(self.table, numbers[0], numbers[1], numbers[2], lists[0])
        if call == SAFE:
            return safe_answer(self.table, numbers[0], lists[0])
        if call == THIN:
            return thin_answer(self.table, numbers[0], lists[0])
        if call == BEST:
            return best_answer(self.table, numbers[0])
        return text_answer(self.table, lists[0])


def answers(calls):
    reader = CallReader(calls)
    holder = Holder()
    told = []
    while reader.has_more():
        call = reader.read_call()
        answer = holder.answer(call[0], call[1], call[2])
        told.append(len(answer))
        told.extend(answer)
    return told
