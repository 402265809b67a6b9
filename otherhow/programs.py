"""Programs: the least that values can cost which fit all lines (points 21 and 22)."""

from math import lcm

from otherhow.ratio import ONE, ZERO, dot, mul, ratio
from otherhow.simplex import FILLER, Tableau


def solve(costs, lines):
    """Solve a program; returns `("end", value, values, prices)`, `("nothing", prices)` or `("falls", values, ray)`."""
    scales = [line_scale(line) for line in lines]
    rights = [mul(right, (scale, 1)) for (_, _, right), scale in zip(lines, scales)]
    right_scale, cost_scale = common(rights), common(costs)
    columns = program_columns(whole(costs, cost_scale), lines, scales)
    many = len(costs)
    tableau = Tableau(columns, spare_columns(columns, many, len(lines)), whole(rights, right_scale))
    tableau.improve(tableau.lacking, list(range(len(columns))))
    lack = tableau.rows[tableau.lacking]
    if lack[0] < 0:
        return ("nothing", read_prices(lack, scales, tableau.over))
    # A column that would add to the fillers, of which none is left, is 0 in all values that fit.
    allowed = [column for column in range(len(columns)) if tableau.weigh(tableau.lacking, column) == 0]
    endless = tableau.improve(tableau.costing, allowed)
    values = read_values(tableau, many, right_scale)
    if endless != FILLER:
        return ("falls", values, read_ray(tableau, many, endless))
    prices = read_prices(dear_row(tableau), scales, tableau.over * cost_scale)
    return ("end", dot(costs, values), values, prices)


def common(numbers):
    """Return the least common multiple of the fractions' lower numbers."""
    shared = 1
    for _, q in numbers:
        shared = lcm(shared, q)
    return shared


def whole(numbers, scale):
    """Return the fractions times the scale, as integers."""
    return [p * (scale // q) for p, q in numbers]


def line_scale(line):
    """Return by what a line is multiplied, so that its entries are whole and its right side is from 0 on.

    It is below 0 also where that makes the line one that its spare column can fill at once.
    """
    entries, kind, right = line
    if right[0] < 0 or (right[0] == 0 and kind == "least"):
        return -common(entries)
    return common(entries)


def program_columns(costs, lines, scales):
    """Return the columns of a program as a Tableau takes them, and behind them the spare columns of the lines.

    A spare column takes up what a line comes to beside its right side.
    """
    columns = [[] for _ in costs]
    spare = []
    for line, ((entries, kind, _), scale) in enumerate(zip(lines, scales)):
        for column, (p, q) in enumerate(entries):
            if p != 0:
                columns[column].append((line + 1, p * (scale // q)))
        if kind != "equal":
            spare.append([(line + 1, 1 if (kind == "most") == (scale > 0) else -1)])
    for column, cost in enumerate(costs):
        if cost != 0:
            columns[column].append((len(lines) + 1, cost))
    return columns + spare


def spare_columns(columns, start, many):
    """Return for each line the spare column, from number `start` on, that can fill it, or FILLER."""
    basic = [FILLER] * many
    for column in range(start, len(columns)):
        position, entry = columns[column][0]
        if entry == 1:
            basic[position - 1] = column
    return basic


def dear_row(tableau):
    """Return the cost row of an end with so much of the row of fillers that no column is below 0 in it.

    The right sides, each times its number in the row of fillers, add up to 0: so this costs nothing.
    """
    times = 0
    for column in range(len(tableau.columns)):
        lack = tableau.weigh(tableau.lacking, column)
        if lack > 0:
            times = max(times, -(tableau.weigh(tableau.costing, column) // lack))
    lack_row, cost_row = tableau.rows[tableau.lacking], tableau.rows[tableau.costing]
    return [cost + times * lack for cost, lack in zip(cost_row, lack_row)]


def read_prices(row, scales, over):
    """Return the prices of the lines that stand in a row."""
    return [ratio(-row[line + 1] * scale, over) for line, scale in enumerate(scales)]


def read_values(tableau, many, right_scale):
    """Return the values of the first `many` columns."""
    values = [ZERO] * many
    for line, column in enumerate(tableau.basic):
        if 0 <= column < many:
            values[column] = ratio(tableau.rows[line][0], tableau.over * right_scale)
    return values


def read_ray(tableau, many, endless):
    """Return how the values of the first `many` columns grow as the endless column is used more and more."""
    ray = [ZERO] * many
    if endless < many:
        ray[endless] = ONE
    for line, column in enumerate(tableau.basic):
        if 0 <= column < many:
            ray[column] = ratio(-tableau.weigh(line, endless), tableau.over)
    return ray
