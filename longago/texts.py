"""Chains as texts: a row for the places, then a row for each move."""

from longago.chains import Chain
from longago.errors import BadText


def written(chain):
    """The chain as a text."""
    rows = [f"places {chain.places()}"]
    for weight, whither in chain.told():
        rows.append(" ".join(["move", f"{weight}:"] + [str(place) for place in whither]))
    return "\n".join(rows)


def read(text):
    """The chain that is written so."""
    rows = text.split("\n")
    many = _many(rows[0])
    if many is None:
        raise BadText(0)
    moves = [_move(row) for row in rows[1:]]
    if None in moves:
        raise BadText(1 + moves.index(None))
    return Chain(many, moves)


def _many(row):
    """How many places the first row tells, or None if it isn't so."""
    words = row.split(" ")
    if len(words) != 2 or words[0] != "places":
        return None
    return _number(words[1])


def _move(row):
    """The move that a row tells, or None if it isn't so."""
    words = row.split(" ")
    if len(words) < 3 or words[0] != "move" or not words[1].endswith(":"):
        return None
    weight = _number(words[1][:-1])
    whither = tuple([_number(word) for word in words[2:]])
    if weight is None or None in whither:
        return None
    return weight, whither


def _number(word):
    """The number of one or two figures that is written so, or None."""
    for number in range(100):
        if word == str(number):
            return number
    return None
