"""Most pairs that share no row and no column, with a cover of as many rows and columns."""

from surebest.errors import NoNetwork
from surebest.flows import greatest
from surebest.networks import is_place

# With a place for each row and column, an arc for each of these and for each pair, and two places more,
# these just make a network of 12 places and 40 arcs.
MOST_ROWS = 5
MOST_COLUMNS = 5
MOST_PAIRS = 30

# A pair is a tuple (row, column), a cover one of rows and columns; these are the places of their parts.
ROW = 0
COLUMN = 1


def check_pairs(rows, columns, pairs):
    if rows < 0 or rows > MOST_ROWS:
        raise NoNetwork("there are 0 to 5 rows")
    if columns < 0 or columns > MOST_COLUMNS:
        raise NoNetwork("there are 0 to 5 columns")
    if len(pairs) > MOST_PAIRS:
        raise NoNetwork("there are up to 30 pairs")
    for pair in pairs:
        if not is_place(rows, pair[ROW]) or not is_place(columns, pair[COLUMN]):
            raise NoNetwork("a pair is of a row or a column that is not there")


def arcs_of(rows, columns, pairs, start, goal):
    # The start's arcs take as much as there are rows: a pair's arc takes more, so that no least cut has one.
    arcs = [(pair[ROW], rows + pair[COLUMN], rows + 1, 0) for pair in pairs]
    # Rooms of 1 let each row and each column have one pair at the most.
    arcs.extend([(start, row, 1, 0) for row in range(rows)])
    arcs.extend([(rows + column, goal, 1, 0) for column in range(columns)])
    return arcs


def paired(rows, columns, pairs):
    check_pairs(rows, columns, pairs)
    start = rows + columns
    goal = start + 1
    found = greatest(goal + 1, arcs_of(rows, columns, pairs, start, goal), start, goal)
    taken = [at for at in range(len(pairs)) if found[0][at] > 0]
    # The cut is of arcs from the start to rows beyond it and from columns within it to the goal alone.
    cut_rows = [row for row in range(rows) if row not in found[1]]
    cut_columns = [column for column in range(columns) if rows + column in found[1]]
    return (taken, (cut_rows, cut_columns))


def is_cover(pairs, cover):
    return all([pair[ROW] in cover[ROW] or pair[COLUMN] in cover[COLUMN] for pair in pairs])


def are_apart(pairs, taken):
    if not all([is_place(len(pairs), at) for at in taken]):
        return False
    rows = [pairs[at][ROW] for at in taken]
    columns = [pairs[at][COLUMN] for at in taken]
    return len(set(rows)) == len(taken) and len(set(columns)) == len(taken)
