"""Tables of drafts: a pair's weight in tons and then its depth, one pair behind another in one list."""

LEAST_PAIRS = 2
MOST_PAIRS = 10
MOST_IN_TABLE = 60000


def is_table(numbers):
    """Tell whether the numbers are a table as it is told."""
    if len(numbers) % 2 != 0 or len(numbers) < 2 * LEAST_PAIRS or len(numbers) > 2 * MOST_PAIRS:
        return False
    return max(numbers) <= MOST_IN_TABLE and goes_up(numbers)


def goes_up(table):
    """Tell whether the weights rise from pair to pair, and the depths never fall."""
    for place in range(2, len(table), 2):
        if table[place] <= table[place - 2] or table[place + 1] < table[place - 1]:
            return False
    return True


def in_table(table, tons):
    """Tell whether a weight lies between the first and the last of the table, or is one of them."""
    return table[0] <= tons and tons <= table[len(table) - 2]


def depth_at(table, tons):
    """Tell the depth at a weight that is in the table, rounded down."""
    place = 2
    while table[place] < tons:
        place = place + 2
    lighter = table[place - 2]
    depth = table[place - 1]
    # All is multiplied ahead of the one division, so nothing is rounded but the depth itself.
    return depth + (table[place + 1] - depth) * (tons - lighter) // (table[place] - lighter)
