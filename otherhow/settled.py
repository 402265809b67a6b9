"""What experiments settle, whatever the numbers are (points 23 to 25)."""

from otherhow.errors import NotAllowed
from otherhow.events import question_value
from otherhow.lines import marks, worths
from otherhow.mixes import as_mix
from otherhow.programs import solve
from otherhow.ratio import ONE, ZERO, add, neg
from otherhow.rows import size
from otherhow.subsets import least_sets
from otherhow.tables import Data, row_bounds, row_of

MOST_FURTHER = 4


def formula_at(data, experiments, formula, way):
    """Return what the formula comes to for a way."""
    total, factors = formula
    for (setting, seen), listed in zip(experiments, factors):
        total = add(total, listed[row_of(data.house, setting, seen, way)])
    return total


def judge_formula(data, experiments, question, formula):
    """Return whether the formula is accepted for the question."""
    factors = formula[1]
    if len(factors) != len(experiments):
        return False
    if not all(len(listed) == row_count(data, seen) for (_, seen), listed in zip(experiments, factors)):
        return False
    return all(
        formula_at(data, experiments, formula, way) == question_value(data.house, question, way)
        for way in data.ways)


def row_count(data, seen):
    """Return how many rows an experiment has in which these variables are seen."""
    return size(row_bounds(data.house, seen))


def settled(data, experiments, question):
    """Return `("formula", formula)` with an accepted one, or `("apart", first, second)` with two mixes.

    The columns of the program are the chances in the first mix and those in the
    second one, times a number. All rows have the same chances in both; if the
    question is cheaper in the first one, costs fall without end, and if it never
    is, the prices are a formula.
    """
    costs = worths(data, question)
    many = len(costs)
    rows = [[ONE] * many]
    for setting, seen in experiments:
        rows.extend(marks(data, setting, seen))
    lines = [(marked + [neg(mark) for mark in marked], "equal", ZERO) for marked in rows]
    answer = solve(costs + [neg(cost) for cost in costs], lines)
    if answer[0] == "end":
        return ("formula", read_formula(data, experiments, answer[3]))
    ray = answer[2]
    return ("apart", as_mix(ray[:many]), as_mix(ray[many:]))


def read_formula(data, experiments, prices):
    """Return the formula that the prices of the lines make."""
    factors = []
    start = 1
    for _, seen in experiments:
        end = start + row_count(data, seen)
        factors.append(prices[start:end])
        start = end
    return (prices[0], factors)


def settling(data, experiments, further, question):
    """Return the least sets of further experiments that settle the question; raises NotAllowed."""
    forbid_many(further)

    def settles(chosen):
        return settled(data, experiments + [further[index] for index in chosen], question)[0] == "formula"

    return least_sets(len(further), settles)


def assuming(data, experiments, further, question):
    """Return the least sets of further sentences that settle the question; raises NotAllowed."""
    forbid_many(further)

    def settles(chosen):
        assumed = Data(data.house, data.sentences + [further[index] for index in chosen], [])
        return settled(assumed, experiments, question)[0] == "formula"

    return least_sets(len(further), settles)


def forbid_many(further):
    """Raise NotAllowed if there are too many further experiments or sentences."""
    if len(further) > MOST_FURTHER:
        raise NotAllowed(f"there are at most {MOST_FURTHER} further ones")
