"""The other tables of a table, as flows in a net.

Each row and each column, the margins' ones too, is a knot. Each place is a pipe between its row and its
column: cells and the whole lead from the row to the column, sums of rows and columns lead back. What flows
into each knot flows out of it just when all sums of the table are right. So one other table is changed
into another by circles of pipes, round each of which the same amount is added.

A room or a high of None is endless.
"""

UP = 1
DOWN = -1


# It is at one other table at a time. A place without steps is published or blank and can't move.
class Net:

    def __init__(self, rows, columns, amounts, free):
        self.amounts = list(amounts)
        self.lows = list(amounts)
        self.highs = list(amounts)
        self.tails = []
        self.heads = []
        self.lay_pipes(rows, columns)
        self.steps = [[] for knot in range(rows + columns + 2)]
        for place in free:
            self.set_free(place)

    def lay_pipes(self, rows, columns):
        for row in range(rows + 1):
            for column in range(columns + 1):
                column_knot = rows + 1 + column
                leads_back = (row == rows) != (column == columns)
                self.tails.append(column_knot if leads_back else row)
                self.heads.append(row if leads_back else column_knot)

    def set_free(self, place):
        tail = self.tails[place]
        head = self.heads[place]
        self.release(place)
        self.steps[tail].append((place, UP, head))
        self.steps[head].append((place, DOWN, tail))

    def hold(self, place, least, most):
        self.lows[place] = least
        self.highs[place] = most

    def release(self, place):
        self.lows[place] = 0
        self.highs[place] = None

    def is_free(self, place):
        return self.highs[place] is None

    def go_to(self, amounts):
        self.amounts = list(amounts)

    def room(self, place, way):
        if way == DOWN:
            return self.amounts[place] - self.lows[place]
        if self.highs[place] is None:
            return None
        return self.highs[place] - self.amounts[place]

    # The step by which each knot was found: place, way and the knot before. The nearest knots are found
    # first, for along shortest circles few pushes are needed, however large the counts are.
    def reach(self, start, goal, barred):
        came = {start: None}
        found = [start]
        done = 0
        while done < len(found) and goal not in came:
            knot = found[done]
            done = done + 1
            for place, way, after in self.steps[knot]:
                if after not in came and place != barred and self.room(place, way) != 0:
                    came[after] = (place, way, knot)
                    found.append(after)
        return came

    # The moves (place and way) of a shortest circle that moves the place that way, or None. The place is
    # barred from the rest of the circle, where it would only undo its own move.
    def circle(self, place, way):
        if self.room(place, way) == 0:
            return None
        start = self.heads[place] if way == UP else self.tails[place]
        goal = self.tails[place] if way == UP else self.heads[place]
        came = self.reach(start, goal, place)
        if goal not in came:
            return None
        moves = [(place, way)]
        knot = goal
        while knot != start:
            step = came[knot]
            moves.append((step[0], step[1]))
            knot = step[2]
        return moves

    def circle_room(self, moves):
        rooms = [self.room(place, way) for place, way in moves]
        return min([room for room in rooms if room is not None], default=None)

    # Moves the place that way as far as it goes. True if it would go on endlessly.
    def drive(self, place, way):
        moves = self.circle(place, way)
        while moves is not None:
            room = self.circle_room(moves)
            if room is None:
                return True
            for moved, moved_way in moves:
                self.amounts[moved] = self.amounts[moved] + moved_way * room
            moves = self.circle(place, way)
        return False

    # Moves the place to from least to most and keeps it there from now on. True if it got there.
    def bring_within(self, place, least, most):
        if self.is_free(place):
            if self.amounts[place] < least:
                self.highs[place] = least
                self.drive(place, UP)
            elif self.amounts[place] > most:
                self.lows[place] = most
                self.drive(place, DOWN)
            self.hold(place, least, most)
        return least <= self.amounts[place] <= most

    # Moves the place down as far as it goes and holds it there from now on.
    def settle_lowest(self, place):
        self.drive(place, DOWN)
        self.hold(place, self.amounts[place], self.amounts[place])


# Of a set, the other tables that prove small places safe: for each place one with 0 there and one with the
# bound there. More than the bound needn't be looked for: each number between what is there and what can be
# there can be there too, and what is there is below the bound.
class Proofs:

    def __init__(self, net, bound):
        self.net = net
        self.own = list(net.amounts)
        self.bound = bound
        self.shown = []

    # True if the small place is safe.
    def prove(self, place):
        if not self.net.is_free(place):
            return False
        return self.show(place, 0) and self.show(place, self.bound)

    # Each begins at the table itself, to differ from it at few places: then it often lasts when one is
    # published.
    def show(self, place, goal):
        self.net.go_to(self.own)
        got_there = self.net.bring_within(place, goal, goal)
        self.net.release(place)
        self.shown.append((place, goal, list(self.net.amounts)))
        return got_there

    # Takes the place out of the set if all that was proved can be proved without it. True if so.
    def publish(self, place):
        lasting = []
        for small, goal, amounts in self.shown:
            lasts = amounts[place] == self.own[place]
            mended = amounts if lasts else self.without(place, small, goal, amounts)
            if mended is None:
                return False
            lasting.append((small, goal, mended))
        self.shown = lasting
        self.net.hold(place, self.own[place], self.own[place])
        return True

    # An other table with the goal still at the small place, but with the table's own number at the place.
    def without(self, place, small, goal, amounts):
        self.net.go_to(amounts)
        self.net.hold(small, goal, goal)
        got_there = self.net.bring_within(place, self.own[place], self.own[place])
        self.net.release(small)
        self.net.release(place)
        return list(self.net.amounts) if got_there else None
