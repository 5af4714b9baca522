"""How many rows of integers are independent, and rows made of other ones."""

from evenlater.corenumbers import lowest_row
from evenlater.kinds import are_integers
from evenlater.refusals import need


def _is_table(rows):
    if not (isinstance(rows, tuple) and all([are_integers(row) for row in rows])):
        return False
    return all([len(row) == len(rows[0]) for row in rows])


def _cleared(row, lead, column, scale):
    # all entries are determinants of the first table, so that the division comes out even
    return [(lead[column] * own - row[column] * above) // scale for own, above in zip(row, lead)]


def _stairs(rows, width):
    """The independent rows of a table after elimination, judged by its first columns, width of them; for each of
    these rows the column where it begins; and the rows that are left, which are 0 in these columns."""
    leads, columns, rest, scale = [], [], list(rows), 1
    for column in range(width):
        found = [at for at, row in enumerate(rest) if row[column] != 0]
        if len(found) > 0:
            lead = rest[found[0]]
            others = rest[:found[0]] + rest[found[0] + 1:]
            rest = [_cleared(row, lead, column, scale) for row in others]
            leads, columns, scale = [*leads, lead], [*columns, column], lead[column]
    return leads, columns, rest


def rank_of(rows):
    """How many of the rows are independent."""
    need(_is_table(rows), "rows")
    return len(_stairs(rows, len(rows[0]) if len(rows) > 0 else 0)[0])


def combined(rows, row):
    """A pair (bottom, tops), the sum of all tops[i] times rows[i] being bottom times row; None if there is none."""
    need(_is_table(rows), "rows")
    need(are_integers(row) and (len(rows) == 0 or len(row) == len(rows[0])), "row")
    sides = [[known[at] for known in rows] for at in range(len(row))]
    leads, columns, rest = _stairs([side + [entry] for side, entry in zip(sides, row)], len(rows))
    if any([left[-1] != 0 for left in rest]):
        return None
    # times the last leading entry, a determinant, all tops are integers, so that each division comes out even
    bottom = leads[-1][columns[-1]] if len(leads) > 0 else 1
    tops = [0] * len(rows)
    for lead, column in reversed(list(zip(leads, columns))):
        done = sum([entry * top for entry, top in zip(lead, tops)])
        tops[column] = (bottom * lead[-1] - done) // lead[column]
    return lowest_row(bottom, tops)
