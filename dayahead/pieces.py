"""Some of each: pieces of money lent and of each thing, below 0 if they're borrowed or sold.

They are written as how many bought, how many sold, of one row behind another; a row is what a piece
pays under each that may come, then its price.
"""


def together(rows, some):
    """Some of each as one row: what they pay under each that may come, then what they cost."""
    made = [0] * len(rows[0])
    for number, row in enumerate(rows):
        pieces = some[2 * number] - some[2 * number + 1]
        made = [so_far + pieces * more for so_far, more in zip(made, row)]
    return made


def is_money_for_nothing(made):
    """Whether a row of some of each costs nothing or less, never loses, and gains today or tomorrow."""
    cost = made[-1]
    paid = made[:-1]
    return cost <= 0 and min(paid) >= 0 and (cost < 0 or max(paid) > 0)
