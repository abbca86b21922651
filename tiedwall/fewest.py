"""How few ties more make a wall firm, and which.

Spots and tables are as in tiedwall.strips.
"""

from tiedwall.strips import passage, table_with, needed_at_least, may_lean


def first_of_size(table, rows, spots, size):
    """The first set of so many of the spots that makes it firm and has no useless one; None if there's none."""
    # This keeps the search short: most sets are given up before their last tie is chosen.
    if needed_at_least(table) > size:
        return None
    if size == 0:
        return []
    for place, spot in enumerate(spots):
        # Where the square can't lean so already, a tie is useless: one fewer would do.
        if may_lean(table, rows, spot):
            more = table_with(table, passage(rows, spot))
            rest = first_of_size(more, rows, spots[place + 1:], size - 1)
            if rest is not None:
                return [spot] + rest
    return None


def fewest(table, rows, spots, most):
    """Of the smallest sets of spots that make it firm the first; None if it takes more than most."""
    for size in range(needed_at_least(table), most + 1):
        found = first_of_size(table, rows, spots, size)
        if found is not None:
            return found
    return None
