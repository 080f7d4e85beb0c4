"""Prices of what may come: the corners, and what they tell.

What has a price today is a row: what it pays under each that may come, then its price.
Prices of what may come are a list of fractions, one for each.
"""

from dayahead.ratio import add, is_less, ratio, times


def choices(count):
    """Every choice of some of the numbers below count, in the order in which corners are told."""
    found = []
    layer = [[]]
    for size in range(count):
        longer = []
        for chosen in layer:
            start = chosen[-1] + 1 if size > 0 else 0
            for number in range(start, count):
                longer.append(chosen + [number])
        found.extend(longer)
        layer = longer
    return found


def pivot_row(rows, column):
    """The first row from number `column` on that isn't 0 in this column, or None."""
    for number in range(column, len(rows)):
        if rows[number][column] != 0:
            return number
    return None


def cleared(rows, column):
    """The rows with all but row number `column` made 0 in this column, in whole numbers."""
    kept = rows[column]
    made = []
    for number, row in enumerate(rows):
        if number == column:
            made.append(kept)
        else:
            made.append([kept[column] * a - row[column] * b for a, b in zip(row, kept)])
    return made


def solved(rows, count):
    """The one solution, as fractions, of rows of count numbers and a sum; None if there isn't just one."""
    rows = list(rows)
    for column in range(count):
        found = pivot_row(rows, column)
        if found is None:
            return None
        swapped = rows[found]
        rows[found] = rows[column]
        rows[column] = swapped
        rows = cleared(rows, column)
    # The rows left over are 0 in every column: a sum other than 0 can't be met.
    for row in rows[count:]:
        if row[count] != 0:
            return None
    return [ratio(rows[number][count], rows[number][number]) for number in range(count)]


def narrowed(row, chosen):
    """The row with the chosen of what may come alone, and its price."""
    return [row[number] for number in chosen] + [row[-1]]


def corner_on(rows, chosen, count):
    """The corner whose prices are more than 0 under the chosen alone, or None."""
    found = solved([narrowed(row, chosen) for row in rows], len(chosen))
    if found is None:
        return None
    prices = [(0, 1)] * count
    for number, price in zip(chosen, found):
        if price[0] <= 0:
            return None
        prices[number] = price
    return prices


def find_corners(rows, count):
    """All corners, in the order in which they are told."""
    found = []
    for chosen in choices(count):
        corner = corner_on(rows, chosen, count)
        if corner is not None:
            found.append(corner)
    return found


def are_fair(corners, count):
    """Whether each that may come has in some corner a price that isn't 0."""
    for number in range(count):
        if not any([corner[number][0] != 0 for corner in corners]):
            return False
    return True


def worth_by(prices, pays):
    """What a promise is worth by prices of what may come."""
    worth = (0, 1)
    for price, paid in zip(prices, pays):
        worth = add(worth, times(paid, price))
    return worth


def least_and_greatest(corners, pays):
    """The pair of the least and the greatest that a promise is worth by corners, of which there is one."""
    least = worth_by(corners[0], pays)
    greatest = least
    for corner in corners[1:]:
        worth = worth_by(corner, pays)
        if is_less(worth, least):
            least = worth
        if is_less(greatest, worth):
            greatest = worth
    return (least, greatest)
