"""With which chances one should choose among several things (point 28)."""

from otherhow.lines import mix_lines, read_paper, worths
from otherhow.programs import solve
from otherhow.ratio import ONE, ZERO, mul, neg


def lot_question(questions, lot):
    """Return the question of a lot: all terms in order, each factor times the choice's chance."""
    return [
        (mul(factor, chance), [(variable, word, list(setting)) for variable, word, setting in event])
        for question, chance in zip(questions, lot) for factor, event in question]


def best_lot(data, questions):
    """Return `("lot", value, lot, mix, paper)` with a best lot, or `("none", paper)` with a refutation.

    The columns of the program are the chances of a mix and, as the difference of
    two columns, a number that no choice is worth more than. The least such number
    is the value, and the prices of the lines that say so are the lot.
    """
    many = len(data.ways)
    lines = [(entries + [ZERO, ZERO], kind, right) for entries, kind, right in mix_lines(data)]
    start = len(lines)
    for question in questions:
        spared = [neg(worth) for worth in worths(data, question)]
        lines.append((spared + [ONE, neg(ONE)], "least", ZERO))
    answer = solve([ZERO] * many + [ONE, neg(ONE)], lines)
    if answer[0] == "nothing":
        return ("none", read_paper(data, answer[1]))
    _, value, values, prices = answer
    return ("lot", value, prices[start:], values[:many], read_paper(data, prices))
