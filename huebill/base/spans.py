"""How rows of whole numbers depend on one another."""

from math import gcd


def relations(rows):
    """All ways by which the rows add up to nothing: those of which each other one is a sum of multiples.

    Each is a list of integers, one for each row; as many rows as there are ways depend on the others.
    """
    lines = []
    for at, row in enumerate(rows):
        own = [1 if at == other else 0 for other in range(len(rows))]
        lines.append([*row, *own])
    width = len(rows[0])
    for column in range(width):
        lines = _without(lines, column)
    return [line[width:] for line in lines]


def _without(lines, column):
    """The lines with nothing in a column: one line that has something there is used up for it."""
    heads = [line for line in lines if line[column] != 0]
    if len(heads) == 0:
        return lines
    at = lines.index(heads[0])
    return [_cleared(line, heads[0], column) for line in lines[:at] + lines[at + 1:]]


def _cleared(line, head, column):
    mixed = [cell * head[column] - top * line[column] for cell, top in zip(line, head)]
    shared = 0
    for cell in mixed:
        shared = gcd(shared, cell)
    # The own numbers behind the row are never all 0, so there is a common divisor.
    return [cell // shared for cell in mixed]
