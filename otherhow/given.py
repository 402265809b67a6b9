"""Questions about the part of the population for which an event holds (points 26 and 27)."""

from math import lcm

from otherhow.events import holds
from otherhow.lines import mix_lines, read_paper, worths
from otherhow.mixes import as_mix
from otherhow.papers import are_prices, paper_at, paper_gives
from otherhow.programs import solve
from otherhow.ratio import ONE, ZERO, at_most, div, mul, neg, sub


def judge_given(data, question, condition, value, paper):
    """Return whether the given paper is accepted for the value."""
    return stays_within(data, condition, paper, [sub(worth, value) for worth in worths(data, question)])


def judge_never(data, condition, paper):
    """Return whether the given paper is accepted for `"never"`."""
    return stays_within(data, condition, paper, [neg(ONE)] * len(data.ways))


def stays_within(data, condition, paper, limits):
    """Return whether the paper comes for each way to at most 0, or to its limit if the event holds of the way."""
    if not are_prices(data, paper):
        return False
    # Apart from the prices of the rows that hold, the paper comes to the same for every way.
    fixed = neg(paper_gives(data, (ZERO, paper)))
    return all(
        at_most(paper_at(data, (fixed, paper), way), limit if holds(data.house, condition, way) else ZERO)
        for way, limit in zip(data.ways, limits))


def least_given(data, question, condition):
    """Return `("end", value, mix, paper)`, or `("never", paper)` if no mix that agrees has the event.

    The columns of the program are the chances divided by that of the event, so
    that the ways of the event add up to 1, and behind them what 1 is divided by
    it, which takes the place of 1 in the lines.
    """
    many = len(data.ways)
    had = [ONE if holds(data.house, condition, way) else ZERO for way in data.ways]
    whole = (-bound_scale(data), 1)
    lines = [(entries + [mul(right, whole)], kind, ZERO) for entries, kind, right in mix_lines(data)]
    lines.append((had + [ZERO], "equal", ONE))
    costs = [mul(worth, one) for worth, one in zip(worths(data, question), had)]
    answer = solve(costs + [ZERO], lines)
    if answer[0] == "nothing":
        prices = answer[1]
        return ("never", read_paper(data, [div(price, prices[-1]) for price in prices])[1])
    _, value, values, prices = answer
    return ("end", value, as_mix(values[:many]), read_paper(data, prices)[1])


def bound_scale(data):
    """Return a number that makes all bounds whole: the last column counts in parts of it.

    With whole entries the numbers of the program stay short.
    """
    scale = 1
    for _, _, bounds in data.tables:
        for low, high in bounds:
            scale = lcm(scale, low[1], high[1])
    return scale
