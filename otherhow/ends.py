"""What a question is at least and at most in mixes that agree (point 20)."""

from otherhow.lines import mix_lines, read_paper, worths
from otherhow.programs import solve
from otherhow.ratio import ZERO, neg


def possible(data):
    """Return `("mix", mix)` with a mix that agrees, or `("none", paper)` with a refutation."""
    found = cheapest(data, [ZERO] * len(data.ways))
    if found[0] == "none":
        return found
    return ("mix", found[2])


def least(data, question):
    """Return `("end", value, mix, paper)`, or `("none", paper)` with a refutation."""
    return cheapest(data, worths(data, question))


def greatest(data, question):
    """Return the same for the greatest: the paper is one for the question with its factors negated."""
    found = least(data, [(neg(factor), event) for factor, event in question])
    if found[0] == "none":
        return found
    _, value, mix, paper = found
    return ("end", neg(value), mix, paper)


def cheapest(data, costs):
    """Return `("end", value, mix, paper)` for the least that mixes that agree cost, or `("none", paper)`."""
    answer = solve(costs, mix_lines(data))
    if answer[0] == "nothing":
        return ("none", read_paper(data, answer[1]))
    _, value, mix, prices = answer
    return ("end", value, mix, read_paper(data, prices))
