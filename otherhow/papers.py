"""Papers prove that no mix that agrees has less, or that none agrees (points 18 and 19)."""

from otherhow.events import question_value
from otherhow.ratio import ZERO, add, added, at_most, less, mul, sub
from otherhow.tables import row_of


def are_prices(data, prices):
    """Return whether there are prices for each row of each table, all from 0 on."""
    if len(prices) != len(data.tables):
        return False
    return all(are_table_prices(table, listed) for table, listed in zip(data.tables, prices))


def are_table_prices(table, listed):
    """Return whether there are prices for each row of the table, all from 0 on."""
    if len(listed) != len(table[2]):
        return False
    return all(at_most(ZERO, low_price) and at_most(ZERO, high_price) for low_price, high_price in listed)


def paper_at(data, paper, way):
    """Return what a paper comes to for a way."""
    total, prices = paper
    for (setting, seen, _), listed in zip(data.tables, prices):
        low_price, high_price = listed[row_of(data.house, setting, seen, way)]
        total = add(total, sub(low_price, high_price))
    return total


def paper_gives(data, paper):
    """Return what a paper gives."""
    fixed, prices = paper
    return add(fixed, added([table_gives(table, listed) for table, listed in zip(data.tables, prices)]))


def table_gives(table, listed):
    """Return what the prices for the table's rows give."""
    return added([
        sub(mul(low_price, low), mul(high_price, high))
        for (low, high), (low_price, high_price) in zip(table[2], listed)])


def judge_paper(data, question, value, paper):
    """Return whether the paper is accepted for the question and value."""
    if not are_prices(data, paper[1]) or less(paper_gives(data, paper), value):
        return False
    return all(
        at_most(paper_at(data, paper, way), question_value(data.house, question, way)) for way in data.ways)


def judge_none(data, paper):
    """Return whether the paper is accepted as a refutation."""
    if not are_prices(data, paper[1]) or at_most(paper_gives(data, paper), ZERO):
        return False
    return all(at_most(paper_at(data, paper, way), ZERO) for way in data.ways)
