"""Two lists of lights paired one to one, with prices that show that no choice is better.

In the tables here a row stands for a light of the first list, a column for one of the second.
"""

from skypairs.checks import are_numbers, check_lights, check_rule, check_slip

# It is more than sixteen pairs can cost. So the choice whose pairs are worth most together
# has the most pairs, and of these costs least; and each pair that may be is worth more than 0.
FULL_WORTH = 2000000

# More than any way from a row to a column can lack.
NO_WAY = 200000000


def pairing(one, other, rule, *, slip=(0, 0)):
    """Tell the pairs of a best choice, its cost, and prices that show that it is best."""
    worths = asked_worths(one, other, rule, slip)
    pairs, prices = best_choice(worths, len(other))
    return tuple(pairs), total_cost(worths, pairs), prices


def settles(one, other, rule, pairs, prices, *, slip=(0, 0)):
    """Tell whether the pairs are a choice, and the prices show that it is best."""
    worths = asked_worths(one, other, rule, slip)
    if not is_choice(pairs, worths, len(other)) or not are_prices(prices, len(one), len(other)):
        return False
    if sum(prices[0]) + sum(prices[1]) != total_worth(worths, pairs):
        return False
    return all([
        prices[0][row] + prices[1][column] >= worths[row][column]
        for row, column in possible_pairs(worths)
    ])


def sure(one, other, rule, *, slip=(0, 0)):
    """Tell the pairs that are in all best choices, rising."""
    return sure_pairs(asked_worths(one, other, rule, slip), len(other))


def likely(one, other, rule, *, slip=(0, 0)):
    """Tell the pairs that are in some best choice, rising."""
    worths = asked_worths(one, other, rule, slip)
    many = len(other)
    pairs, prices = best_choice(worths, many)
    ways = exchanges(worths, many, pairs, prices)
    found = list(pairs)
    for row, column in tight_pairs(worths, prices):
        if (row, column) not in pairs and row in reached(ways, len(worths) + column):
            found.append((row, column))
    return sorted(found)


def sure_pairs(worths, many):
    """The pairs that are in all best choices, rising."""
    pairs, prices = best_choice(worths, many)
    ways = exchanges(worths, many, pairs, prices)
    return [(row, column) for row, column in pairs if len(worths) + column not in reached(ways, row)]


def asked_worths(one, other, rule, slip):
    """The table of worths, or the refusal of the first thing that can't be."""
    check_lights(one)
    check_lights(other)
    check_rule(rule)
    check_slip(slip)
    return worth_table(one, other, rule, slip)


def worth_table(one, other, rule, slip):
    """What each two lights are worth as a pair: a list of rows."""
    aside, along = slip
    slipped = [(x + aside, y + along, glow) for x, y, glow in other]
    return [[pair_worth(light, mate, rule) for mate in slipped] for light in one]


def pair_worth(light, mate, rule):
    """What two lights are worth as a pair, 0 if they may be none."""
    reach, dim, near = rule
    aside = light[0] - mate[0]
    along = light[1] - mate[1]
    apart = abs(light[2] - mate[2])
    squares = aside * aside + along * along
    if squares > reach * reach or apart > dim:
        return 0
    return FULL_WORTH - squares - near * apart


def total_worth(worths, pairs):
    """What the pairs are worth together."""
    return sum([worths[row][column] for row, column in pairs])


def total_cost(worths, pairs):
    """What the pairs cost together."""
    return FULL_WORTH * len(pairs) - total_worth(worths, pairs)


def possible_pairs(worths):
    """The two lights that may be a pair, as (row, column), rising."""
    return [
        (at, column)
        for at, row in enumerate(worths)
        for column, worth in enumerate(row)
        if worth > 0
    ]


def tight_pairs(worths, prices):
    """Those that may be a pair and whose prices are just its worth: best choices have no others."""
    return [
        (row, column)
        for row, column in possible_pairs(worths)
        if prices[0][row] + prices[1][column] == worths[row][column]
    ]


def is_choice(thing, worths, many):
    """Whether a thing is a tuple of pairs that may be, each light in one at most."""
    if not isinstance(thing, tuple):
        return False
    bounds = ((0, len(worths) - 1), (0, many - 1))
    rows = {}
    columns = {}
    for pair in thing:
        if not are_numbers(pair, bounds):
            return False
        row, column = pair
        if worths[row][column] == 0 or row in rows or column in columns:
            return False
        rows[row] = True
        columns[column] = True
    return True


def are_prices(thing, rows, many):
    """Whether a thing is a tuple of two tuples with a price for each row and each column."""
    if not isinstance(thing, tuple) or len(thing) != 2:
        return False
    bound = (0, FULL_WORTH)
    return are_numbers(thing[0], (bound,) * rows) and are_numbers(thing[1], (bound,) * many)


def best_choice(worths, many):
    """The pairs of a best choice, rising, and prices that show that it is best.

    The rows are let in one by one. Prices always come to no less than the worth, and to just the
    worth for what is joined; so what is joined is best among the rows that are in.
    """
    # Each row gets a column, one of no worth if it stays alone: such ones are put behind where
    # the columns are too few. A column's price rises only when it is joined already, so the one
    # joined last has a price of 0; therefore no row's price falls below 0.
    width = max(many, len(worths))
    table = [row + [0] * (width - many) for row in worths]
    row_prices = [max(row) for row in table]
    column_prices = [0] * width
    holders = [None] * width
    for row in range(len(table)):
        let_in(row, table, row_prices, column_prices, holders)
    held = [column for column in range(many) if holders[column] is not None]
    pairs = [(holders[column], column) for column in held if worths[holders[column]][column] > 0]
    return sorted(pairs), (tuple(row_prices), tuple(column_prices[:many]))


def let_in(newcomer, table, row_prices, column_prices, holders):
    """Give one row more a column: prices and holders are changed."""
    lacks, ahead, ended = shortest_ways(newcomer, table, row_prices, column_prices, holders)
    free = ended[-1]
    # So much that the way to the free column lacks nothing more, and none lacks less than nothing.
    row_prices[newcomer] -= lacks[free]
    for column in ended[:-1]:
        change = lacks[free] - lacks[column]
        row_prices[holders[column]] -= change
        column_prices[column] += change
    column = free
    while ahead[column] is not None:
        holders[column] = holders[ahead[column]]
        column = ahead[column]
    holders[column] = newcomer


def shortest_ways(newcomer, table, row_prices, column_prices, holders):
    """Ways from a row over columns and their holders, up to the nearest column that is free.

    What a row and a column lack is what their prices are above their worth. Told are the least that
    ways to each column lack, the column ahead on that way, and the columns whose ways are final, in
    turn: the last one is free.
    """
    lacks = [NO_WAY] * len(holders)
    ahead = [None] * len(holders)
    waiting = list(range(len(holders)))
    ended = []
    row = newcomer
    last = None
    passed = 0
    while row is not None:
        for column in waiting:
            lack = passed + row_prices[row] + column_prices[column] - table[row][column]
            if lack < lacks[column]:
                lacks[column] = lack
                ahead[column] = last
        passed, last = min([(lacks[column], column) for column in waiting])
        waiting.remove(last)
        ended.append(last)
        row = holders[last]
    return lacks, ahead, ended


def exchanges(worths, many, pairs, prices):
    """The steps by which a best choice can be changed, so that each round of them gives another one.

    Places are the rows, then the columns, then one for staying alone. A step from a row to a column
    joins them, one from a column to a row parts them; only a light with a price of 0 can come from
    staying alone, or go there. A list of places to go for each place is told.
    """
    alone = len(worths) + many
    ways = [[] for _ in range(alone + 1)]
    for row, column in tight_pairs(worths, prices):
        if (row, column) in pairs:
            ways[len(worths) + column].append(row)
        else:
            ways[row].append(len(worths) + column)
    paired = [row for row, _ in pairs] + [len(worths) + column for _, column in pairs]
    for place, price in enumerate(prices[0] + prices[1]):
        if price > 0:
            continue
        # A paired row goes to stay alone, a lone one comes from it; columns the other way round,
        # since a round enters them where it leaves rows.
        if (place < len(worths)) == (place in paired):
            ways[place].append(alone)
        else:
            ways[alone].append(place)
    return ways


def reached(ways, start):
    """The places to which steps lead from one, itself too, as a dict of True."""
    seen = {start: True}
    waiting = [start]
    while waiting:
        place = waiting.pop()
        for further in ways[place]:
            if further not in seen:
                seen[further] = True
                waiting.append(further)
    return seen
