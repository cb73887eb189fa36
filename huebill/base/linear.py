"""Linear programs, solved in whole numbers alone."""


def greatest(rows, limits, gains):
    """The solution by which the gains have the greatest sum, and the weights of the rows that show it.

    Among all values from 0 on by which no row has a sum above its limit, each limit being at least 0, those are
    found that give the greatest sum of the gains times the values; there must be such a greatest sum. The answer is
    (unit, values, weights), all of them whole: each value and each weight stands for itself divided by the unit.
    The weights are at least 0, the weighted rows add up to at least the gains, and the weighted limits to the
    greatest sum.
    """
    table = _first_table(rows, limits, gains)
    basis = [len(gains) + at for at in range(len(rows))]
    unit = 1
    column = _entering(table)
    while column is not None:
        row = _leaving(table, basis, column)
        pivot = table[row][column]
        table = _pivoted(table, row, column, unit)
        unit = pivot
        basis[row] = column
        column = _entering(table)
    ends = {own: table[at][-1] for at, own in enumerate(basis)}
    values = [ends.get(at, 0) for at in range(len(gains))]
    return unit, values, table[-1][len(gains):-1]


def balanced(table):
    """Shares of the rows, and of the columns, of a table of integers from 0 on: two lists of integers from 0 on.

    No other shares of the rows make the least sum over a column greater, no other ones of the columns make the
    greatest sum over a row less, and these two sums are the same. Both lists have the same sum, which stands for 1.
    """
    # With 1 added to each cell no sum is 0, so the limit 1 for all rows only sets the scale.
    raised = [[cell + 1 for cell in row] for row in table]
    _, columns, rows = greatest(raised, [1] * len(table), [1] * len(table[0]))
    return rows, columns


def _first_table(rows, limits, gains):
    """The rows with what is left below each limit, the limits last, and the gains, turned round, below all."""
    table = []
    for at, row in enumerate(rows):
        left = [1 if at == other else 0 for other in range(len(rows))]
        table.append([*row, *left, limits[at]])
    table.append([-gain for gain in gains] + [0] * (len(rows) + 1))
    return table


def _entering(table):
    """The first column that makes the sum greater; taking the first one keeps the search from going round."""
    for column, cell in enumerate(table[-1][:-1]):
        if cell < 0:
            return column
    return None


def _leaving(table, basis, column):
    """The row that allows the column the least, of several the one whose own column comes first."""
    best = None
    for row, own in enumerate(basis):
        if table[row][column] <= 0:
            continue
        if best is None:
            best = row
            continue
        one = table[row][-1] * table[best][column]
        other = table[best][-1] * table[row][column]
        if one < other or (one == other and own < basis[best]):
            best = row
    return best


def _pivoted(table, row, column, unit):
    """The table with the column in the place of the row's own one.

    All cells stay whole: each is a determinant of cells of the first table, so the division by the elder unit
    leaves no rest.
    """
    head = table[row]
    pivot = head[column]
    changed = []
    for at, line in enumerate(table):
        if at == row:
            changed.append(line)
        else:
            part = line[column]
            changed.append([(cell * pivot - part * top) // unit for cell, top in zip(line, head)])
    return changed
