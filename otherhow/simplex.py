"""Bringing columns of a program into use until it is as cheap as can be, in whole numbers alone.

Here each line is an equation with a right side from 0 on. A column is a list of
tuples `(position, entry)` without entries of 0: position 0 is not used, positions
1, 2 .. stand for the lines, and the last one for the cost.
"""

# In place of a column: what fills a line that has no column in use yet.
FILLER = -1


class Tableau:
    """The columns in use, one for each line, and the inverse of the matrix that they make.

    `basic` has the column in use on each line, or FILLER. `rows` are divided by
    `over`, which is above 0. The row of a line has at position 0 the value of the
    column in use there, and at the lines' positions its row of the inverse. Behind
    the lines' rows stand two more: weighing a column with the first one tells how
    much of the fillers it adds, and with the second one how much it costs, after
    what it lets the columns in use spare.
    """

    def __init__(self, columns, basic, rights):
        many = len(rights)
        self.columns = [list(column) for column in columns]
        self.basic = list(basic)
        self.over = 1
        self.lacking = many
        self.costing = many + 1
        self.rows = [unit_row(many + 2, line + 1) for line in range(many)]
        for line, right in enumerate(rights):
            self.rows[line][0] = right
        filled = [line for line in range(many) if basic[line] == FILLER]
        lack = [0] * (many + 2)
        for line in filled:
            lack[0] -= rights[line]
            lack[line + 1] = -1
        self.rows.append(lack)
        self.rows.append(unit_row(many + 2, many + 1))

    def weigh(self, at, column):
        """Return what a column comes to in a row, times `over`."""
        row = self.rows[at]
        return sum([row[position] * entry for position, entry in self.columns[column]])

    def improve(self, aim, allowed):
        """Use allowed columns until none comes to less than 0 in the row `aim`.

        Returns FILLER then, or before it a column that comes to less than 0 and can be used without end.
        """
        while True:
            entering = self.best_column(aim, allowed)
            if entering == FILLER:
                return FILLER
            rates = [self.weigh(at, entering) for at in range(len(self.rows))]
            leaving = self.leaving_line(rates)
            if leaving == FILLER:
                return entering
            self.exchange(leaving, entering, rates)

    def best_column(self, aim, allowed):
        """Return the allowed column that comes to the least in the row `aim`, FILLER if none is below 0."""
        best, least = FILLER, 0
        for column in allowed:
            weight = self.weigh(aim, column)
            if weight < least:
                best, least = column, weight
        return best

    def leaving_line(self, rates):
        """Return the line whose column is the first one to be used up, FILLER if none ever is.

        Of lines with equal quotients it is the one whose whole row, divided by its
        rate, comes first. So the row that `improve` aims at grows at each step, as
        lists are ordered, and the columns in use are never the same twice.
        """
        best = FILLER
        for line in range(len(self.basic)):
            if rates[line] > 0 and (best == FILLER or comes_first(
                    self.rows[line], rates[line], self.rows[best], rates[best])):
                best = line
        return best

    def exchange(self, leaving, entering, rates):
        """Use a column in place of that of a line."""
        pivot, rate = self.rows[leaving], rates[leaving]
        rows = [
            row if at == leaving else without(row, rates[at], pivot, rate, self.over)
            for at, row in enumerate(self.rows)]
        self.rows = rows
        self.over = rate
        self.basic[leaving] = entering


def unit_row(length, at):
    """Return a row of 0 with a 1 at one place."""
    return [1 if place == at else 0 for place in range(length)]


def comes_first(row, rate, other, other_rate):
    """Return whether a row, divided by its rate, comes before another one; both rates are above 0."""
    for number, other_number in zip(row, other):
        mine, others = number * other_rate, other_number * rate
        if mine != others:
            return mine < others
    return False


def without(row, rate, pivot, pivot_rate, over):
    """Return the row, over the new divisor `pivot_rate`, without the part of the column that is brought into use.

    The divisions by the old divisor leave no rest: all numbers are determinants of the columns in use.
    """
    if rate != 0:
        return [(number * pivot_rate - other * rate) // over for number, other in zip(row, pivot)]
    if pivot_rate == over:
        return row
    return [number * pivot_rate // over for number in row]
