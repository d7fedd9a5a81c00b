"""Cheapest givings of unlike columns to the rows of a table, with prices that nothing cheaper can pass."""

from surebest.errors import NoTable

MOST_COLUMNS = 8


def check_table(costs):
    if len(costs) < 1:
        raise NoTable("a table has at least one row")
    many = len(costs[0])
    if many < 1 or many > MOST_COLUMNS:
        raise NoTable("a table has 1 to 8 columns")
    if len(costs) > many:
        raise NoTable("a table has no more rows than columns")
    for row in costs:
        if len(row) != many:
            raise NoTable("the rows of a table are all as long")


def spares(costs, rows, columns, row, came):
    """What each column that was not come to costs the row above both prices, as tuples (spare, row, column)."""
    left = [column for column in range(len(columns)) if column not in came]
    return [(costs[row][column] - rows[row] - columns[column], row, column) for column in left]


def least_spare(costs, rows, columns, reached, came):
    found = []
    for row in reached:
        found.extend(spares(costs, rows, columns, row, came))
    return min(found)


def shift(rows, columns, reached, came, spare):
    """Changes the prices so that the least spare is 0; between those reached and come to all sums stay."""
    for row in reached:
        rows[row] = rows[row] + spare
    for column in came:
        columns[column] = columns[column] - spare


def hand_over(found, came, free):
    """Gives the free column to the row that came to it, that row's old one to the row that came to that, and so on."""
    column = free
    while column is not None:
        row = came[column]
        had = found[row]
        found[row] = column
        column = had


def give(costs, rows, columns, found, row):
    """Gives a column to one row more; changes the prices and what was found."""
    reached = [row]
    came = {}
    free = None
    # Only columns that a row has are lowered, so that those which no row has keep the price 0.
    while free is None:
        least = least_spare(costs, rows, columns, reached, came)
        shift(rows, columns, reached, came, least[0])
        column = least[2]
        came[column] = least[1]
        if column in found:
            reached.append(found.index(column))
        else:
            free = column
    hand_over(found, came, free)


def given_columns(costs):
    check_table(costs)
    rows = [0] * len(costs)
    columns = [0] * len(costs[0])
    found = [None] * len(costs)
    for row in range(len(costs)):
        give(costs, rows, columns, found, row)
    return (found, rows, columns)


def total(costs, found):
    return sum([row[column] for row, column in zip(costs, found)])


def is_paid(costs, price, columns):
    if len(costs) != len(columns):
        return False
    return all([price + other <= cost for cost, other in zip(costs, columns)])


def are_prices(costs, rows, columns):
    if len(rows) != len(costs) or any([price > 0 for price in columns]):
        return False
    return all([is_paid(row, price, columns) for row, price in zip(costs, rows)])
