"""The least that a point costs that fits conditions, reckoned in integers alone."""

from planless.numbers import made, on_one_line


class Table:
    """Unknowns told by other unknowns.

    The unknowns are the numbers of a point and, numbered behind these, what each
    condition leaves over. Each row has an unknown of its own: line times it is the
    sum of the row's first numbers, each times the unknown of its column, and of what
    stands behind them, the tail, which no unknown is in. Where all unknowns of
    columns are 0 is the point at hand. The last row is the goal: what is saved.
    """

    def __init__(self, costs, conditions):
        self.wide = len(costs)
        self.line = 1
        self.rows = []
        self.scales = []
        for coefficients, _, right in conditions:
            row, scale = on_one_line([*coefficients, right])
            self.rows.append([*row[:-1], -row[-1]])
            self.scales.append(scale)
        row, self.cost_scale = on_one_line(costs)
        self.rows.append([-number for number in row] + [0])
        self.others = list(range(self.wide))
        self.own = list(range(self.wide, self.wide + len(conditions)))
        # What a condition with the word "just" leaves over may not grow from 0.
        self.shut = [False for _ in costs] + [word == "just" for _, word, _ in conditions]

    def open_columns(self):
        """Return the columns whose unknowns may grow."""
        return [column for column, unknown in enumerate(self.others) if not self.shut[unknown]]

    def swap(self, at, column):
        """Let the unknown of a column be told by a row, and that of the row have the column."""
        pivot = self.rows[at][column]
        sign = 1 if pivot > 0 else -1
        told = [-sign * number for number in self.rows[at]]
        told[column] = sign * self.line
        rows = [told if index == at else self.replaced(row, column, told, abs(pivot))
                for index, row in enumerate(self.rows)]
        self.rows = rows
        self.line = abs(pivot)
        self.own[at], self.others[column] = self.others[column], self.own[at]

    def replaced(self, row, column, told, line):
        """Return the row with what tells the column's unknown in its place."""
        factor = row[column]
        if factor == 0 and line == self.line:
            return row
        # Nothing is left over: all numbers of a table are determinants of its first rows.
        found = [(number * line + factor * other) // self.line for number, other in zip(row, told)]
        found[column] = factor * told[column] // self.line
        return found

    def keep_rows(self, kept):
        """Keep only these rows and the goal, and nudge each of them.

        The nudges are numbers above 0, each one endlessly smaller than the one ahead.
        They leave no ties between rows, so no swap ever leads back.
        """
        nudges = [[self.line if at == index else 0 for index in kept] for at in kept]
        rows = [self.rows[at] + nudge for at, nudge in zip(kept, nudges)]
        self.rows = [*rows, self.rows[-1] + [0 for _ in kept]]
        self.own = [self.own[at] for at in kept]


def settle_just(table):
    """Give columns to the conditions with the word "just"; return the row of one that cannot be.

    Rows that say nothing are left out. If there is no such row None is returned.
    """
    kept = []
    for at, unknown in enumerate(list(table.own)):
        if not table.shut[unknown]:
            kept.append(at)
            continue
        columns = [column for column in table.open_columns() if table.rows[at][column] != 0]
        if columns:
            table.swap(at, columns[0])
            kept.append(at)
        elif table.rows[at][table.wide] != 0:
            return at
    table.keep_rows(kept)
    return None


def is_shorter(step, other):
    """Tell whether one step, a tail over a number above 0, is less than another."""
    tail, below = step[0], step[1]
    other_tail, other_below = other[0], other[1]
    here, there = tail[0] * other_below, other_tail[0] * below
    if here != there:
        return here < there
    return [number * other_below for number in tail] < [number * below for number in other_tail]


def bars_of(table, goal):
    """Return what keeps unknowns from growing: index, row and tail of rows whose unknowns may not sink below 0.

    A goal that is below 0 may not rise above it: there it holds, and gives up its row.
    """
    bars = []
    for at in range(len(table.own)):
        row = table.rows[at]
        if at == goal:
            row = [-number for number in row]
        tail = row[table.wide:]
        if tail > [0 for _ in tail]:
            bars.append((at, row, tail))
    return bars


def first_bar(bars, column):
    """Return the step that an unknown may grow, and the row that bars it then; None if none does."""
    first = None
    for at, row, tail in bars:
        step = (tail, -row[column], at)
        if row[column] < 0 and (first is None or is_shorter(step, first)):
            first = step
    return first


def best_swap(table, goal):
    """Return the row and the column whose swap raises the goal most; None if none raises it.

    The row is None where the column raises it without end.
    """
    bars = bars_of(table, goal)
    best, found = None, None
    for column in table.open_columns():
        rise = table.rows[goal][column]
        if rise <= 0:
            continue
        step = first_bar(bars, column)
        if step is None:
            return None, column
        tail, below, at = step
        gain = ([rise * number for number in tail], below)
        if best is None or is_shorter(best, gain):
            best, found = gain, (at, column)
    return found


def settle_least(table):
    """Bring all unknowns to 0 or above; return the row of one that cannot be, or None."""
    while True:
        tails = [row[table.wide:] for row in table.rows[:-1]]
        broken = [at for at, tail in enumerate(tails) if tail < [0 for _ in tail]]
        if not broken:
            return None
        found = best_swap(table, broken[0])
        if found is None:
            return broken[0]
        at, column = found
        table.swap(at, column)


def settle_cost(table):
    """Save as much as can be; return the column that saves without end, or None."""
    while True:
        found = best_swap(table, len(table.own))
        if found is None:
            return None
        at, column = found
        if at is None:
            return column
        table.swap(at, column)


def multipliers_from(table, row, line):
    """Return the multipliers by which a row comes of the conditions, its own unknown aside."""
    found = [0 for _ in table.scales]
    for column, unknown in enumerate(table.others):
        if unknown >= table.wide:
            at = unknown - table.wide
            found[at] = made(-row[column] * table.scales[at], line)
    return found


def no_point(table, at):
    """Return the multipliers by which a row shows that its unknown cannot be 0 or above."""
    row = table.rows[at]
    # Only with the word "just" an unknown may be too great: then all signs are turned.
    line = table.line if row[table.wide] < 0 else -table.line
    found = multipliers_from(table, row, line)
    if table.own[at] >= table.wide:
        own = table.own[at] - table.wide
        found[own] = made(table.scales[own] * table.line, line)
    return tuple(found)


def along(table, column):
    """Return what stands in a column for each number of a point."""
    found = [0 for _ in range(table.wide)]
    for unknown, row in zip(table.own, table.rows):
        if unknown < table.wide:
            found[unknown] = made(row[column], table.line)
    return found


def point_of(table):
    """Return the point at hand."""
    return tuple(along(table, table.wide))


def direction_of(table, column):
    """Return the direction in which the unknown of a column grows."""
    found = along(table, column)
    if table.others[column] < table.wide:
        found[table.others[column]] = 1
    return tuple(found)


def answer_to(costs, conditions):
    """Return the word of the answer, and its parts: point and multipliers, multipliers, or point and direction."""
    table = Table(costs, conditions)
    broken = settle_just(table)
    if broken is None:
        broken = settle_least(table)
    if broken is not None:
        return "nopoint", (no_point(table, broken),)
    column = settle_cost(table)
    if column is not None:
        return "unbounded", (point_of(table), direction_of(table, column))
    multipliers = multipliers_from(table, table.rows[-1], table.line * table.cost_scale)
    return "best", (point_of(table), tuple(multipliers))
