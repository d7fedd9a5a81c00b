"""Greatest sums under bounds, with prices that no sum can pass, or the reason why nothing is the greatest."""

from surebest.errors import NoTable
from surebest.ratios import common_divisor, dot, is_less, ratio, times

MOST_ROWS = 6
MOST_PARTS = 6

NOUGHT = (0, 1)


# A tableau is a program that is solved for the names beside its rows. The names are whole numbers: those of the
# parts, from 0 on, then one for each row of the program, for what its sum leaves of its limit. Each row of cells
# says that its name, and the names above times their cells, add up to the cell in the last column; in the last
# row stands the goal. All cells are over one under, which is above 0. The last row and the last column have
# None for a name.
class Tableau:
    def __init__(self, cells, beside, above, under):
        self.cells = cells
        self.beside = beside
        self.above = above
        self.under = under


def check_program(rows, limits, goal):
    if len(goal) < 1 or len(goal) > MOST_PARTS:
        raise NoTable("a goal has 1 to 6 ratios")
    if len(rows) > MOST_ROWS:
        raise NoTable("a program has up to 6 rows")
    if len(limits) != len(rows):
        raise NoTable("a program has as many limits as rows")
    for row in rows:
        if len(row) != len(goal):
            raise NoTable("each row is as long as the goal")


def common_under(row):
    found = 1
    for number in row:
        found = found // common_divisor(found, number[1]) * number[1]
    return found


def wholes(row, under):
    return [number[0] * (under // number[1]) for number in row]


def row_unders(rows, limits):
    return [common_under(row + [limit]) for row, limit in zip(rows, limits)]


def first_tableau(rows, limits, goal):
    # In whole numbers no step has to look for common divisors, which takes long where the ratios are great.
    cells = []
    for row, limit, under in zip(rows, limits, row_unders(rows, limits)):
        cells.append(wholes(row + [limit], under))
    cells.append([-number for number in wholes(goal, common_under(goal))] + [0])
    parts = list(range(len(goal)))
    spares = [len(goal) + row for row in range(len(rows))]
    return Tableau(cells, spares + [None], parts + [None], 1)


def new_cell(tableau, at, to, row, column):
    cells = tableau.cells
    if row == at and column == to:
        return tableau.under
    if row == at:
        return cells[row][column]
    if column == to:
        return -cells[row][column]
    # All cells are determinants of first cells, so that no rest is left here.
    return (cells[row][column] * cells[at][to] - cells[row][to] * cells[at][column]) // tableau.under


def new_row(tableau, at, to, row):
    # The cell at the crossing becomes the under, which is to stay above 0.
    sign = 1 if tableau.cells[at][to] > 0 else -1
    return [sign * new_cell(tableau, at, to, row, column) for column in range(len(tableau.above))]


def exchanged(tableau, at, to):
    """The tableau in which the name beside the row `at` and the one above the column `to` have changed places."""
    cells = [new_row(tableau, at, to, row) for row in range(len(tableau.beside))]
    beside = list(tableau.beside)
    above = list(tableau.above)
    beside[at] = tableau.above[to]
    above[to] = tableau.beside[at]
    return Tableau(cells, beside, above, abs(tableau.cells[at][to]))


def first_wrong(tableau):
    """The first of the names that has a cell below 0 at its end, None where there is none."""
    ends = [cells[-1] for cells in tableau.cells]
    wrong = [name for name, end in zip(tableau.beside[:-1], ends) if end < 0]
    wrong.extend([name for name, end in zip(tableau.above[:-1], tableau.cells[-1]) if end < 0])
    return min(wrong, default=None)


def crossing(tableau, wrong):
    """A tuple (name, row, column) of the exchange that mends the wrong name, None where nothing does."""
    # Among several the first name each time, as in first_wrong: so no tableau comes back, whatever ties there are.
    if wrong in tableau.beside:
        row = tableau.beside.index(wrong)
        named = [(name, row, to) for to, name in enumerate(tableau.above[:-1]) if tableau.cells[row][to] < 0]
    else:
        column = tableau.above.index(wrong)
        named = [(name, at, column) for at, name in enumerate(tableau.beside[:-1]) if tableau.cells[at][column] > 0]
    return min(named, default=None)


def parts_of(tableau, many):
    parts = [NOUGHT] * many
    for name, cells in zip(tableau.beside[:-1], tableau.cells):
        if name < many:
            parts[name] = ratio(cells[-1], tableau.under)
    return parts


def ray_of(tableau, many, wrong):
    """How the parts grow while the wrong name grows by 1 and the other names above stay."""
    ray = [NOUGHT] * many
    column = tableau.above.index(wrong)
    for name, cells in zip(tableau.beside[:-1], tableau.cells):
        if name < many:
            ray[name] = ratio(-cells[column], tableau.under)
    if wrong < many:
        ray[wrong] = (1, 1)
    return ray


def weights_of(tableau, row, many, unders):
    """How many times each row of the program went into this row of the tableau."""
    weights = [NOUGHT] * len(unders)
    for name, cell in zip(tableau.above[:-1], tableau.cells[row]):
        if name >= many:
            weights[name - many] = ratio(cell * unders[name - many], tableau.under)
    own = tableau.beside[row]
    if own is not None and own >= many:
        weights[own - many] = (unders[own - many], 1)
    return weights


def settled(rows, limits, goal):
    """As solved, but "endless" with a ray alone, whether or not there are parts that keep the program."""
    tableau = first_tableau(rows, limits, goal)
    unders = row_unders(rows, limits)
    wrong = first_wrong(tableau)
    while wrong is not None:
        found = crossing(tableau, wrong)
        if found is None and wrong in tableau.above:
            return ("endless", ray_of(tableau, len(goal), wrong))
        if found is None:
            return ("none", weights_of(tableau, tableau.beside.index(wrong), len(goal), unders))
        tableau = exchanged(tableau, found[1], found[2])
        wrong = first_wrong(tableau)
    weights = weights_of(tableau, len(rows), len(goal), unders)
    # The goal was made whole too, which made it and its prices so many times as great.
    by = (1, common_under(goal))
    return ("best", parts_of(tableau, len(goal)), [times(weight, by) for weight in weights])


def solved(rows, limits, goal):
    check_program(rows, limits, goal)
    found = settled(rows, limits, goal)
    if found[0] != "endless":
        return found
    # A ray may be there though no parts keep the program. With a goal of noughts any parts that do are the best.
    keeping = settled(rows, limits, [NOUGHT] * len(goal))
    if keeping[0] == "none":
        return keeping
    return ("endless", keeping[1], found[1])


def keeps_row(row, limit, parts):
    return len(row) == len(parts) and not is_less(limit, dot(row, parts))


def none_below(numbers):
    return not any([is_less(number, NOUGHT) for number in numbers])


def keeps(rows, limits, parts):
    return none_below(parts) and all([keeps_row(row, limit, parts) for row, limit in zip(rows, limits)])


def paid(rows, part, prices):
    return dot([row[part] for row in rows], prices)


def are_prices_of(rows, goal, prices):
    if len(prices) != len(rows) or not none_below(prices):
        return False
    return not any([is_less(paid(rows, part, prices), least) for part, least in enumerate(goal)])
