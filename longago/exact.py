"""Exact reckoning: fractions as tuples (top, bottom), and equations in whole numbers."""

from math import gcd


def fraction(top, bottom):
    """top by bottom, in lowest terms, the bottom 1 or more."""
    shared = gcd(top, bottom)
    if bottom < 0:
        shared = -shared
    return top // shared, bottom // shared


def added(one, other):
    """The sum of two fractions."""
    return fraction(one[0] * other[1] + other[0] * one[1], one[1] * other[1])


def solved(equations):
    """The fractions that solve the equations, which must have just one solution.

    An equation is a list of whole numbers: one for each unknown, then the right side.
    """
    rows = list(equations)
    before = 1
    for at in range(len(rows)):
        _bring_up(rows, at)
        lead = rows[at]
        rows = [row if here == at else _without(row, lead, at, before) for here, row in enumerate(rows)]
        before = lead[at]
    return [fraction(row[-1], row[here]) for here, row in enumerate(rows)]


def _bring_up(rows, at):
    """Exchange rows so that the unknown at occurs in the row at."""
    found = at
    while rows[found][at] == 0:
        found += 1
    lead = rows[found]
    rows[found] = rows[at]
    rows[at] = lead


def _without(row, lead, at, before):
    """The row, freed of the unknown at by the lead row."""
    # By Bareiss all numbers stay minors of the first equations: the division by
    # the lead of the unknown before leaves no rest, and keeps the numbers small.
    return [(lead[at] * mine - row[at] * other) // before for mine, other in zip(row, lead)]
