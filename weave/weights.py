"""Weights, and rules that fall by them [18], [19].

Which weight lets all rules fall, or which times show that there is none, is found as in the simplex method: as many
rules as can be are taken together, each some times, such that of no kind more boxes go than come. Either this has no
bound, and the times are found, or the prices at which nothing more is gained are a weight. All numbers stay whole.
"""

from weave.things import are_whole, is_tuple


def are_amounts(thing, many):
    """Whether it is a tuple of so many whole numbers from 0 on, of anything."""
    return are_whole(thing) and len(thing) == many and all(number >= 0 for number in thing)


def is_weight(stock, thing):
    """Whether it is a weight of the stock, of anything."""
    return are_amounts(thing, len(stock))


def weighs(stock, weight, net):
    """What a net weighs by a weight, or comes to by a count."""
    return sum(net[1].count(kind) * number for (kind, ports), number in zip(stock, weight))


def falls(stock, weight, rule):
    """Whether a rule falls by a weight."""
    left, right = rule
    return weighs(stock, weight, left) > weighs(stock, weight, right)


def fall_by(stock, weight, rules):
    """Whether it is a weight by which all rules fall, of anything."""
    return is_weight(stock, weight) and all(falls(stock, weight, rule) for rule in rules)


def lost(kind, rule):
    """How many boxes of a kind a rule takes away, below 0 where it brings some."""
    left, right = rule
    return left[1].count(kind) - right[1].count(kind)


def lost_in_all(kind, rules, times):
    """How many boxes of a kind the rules take away together, each taken so many times."""
    return sum(lost(kind, rule) * many for rule, many in zip(rules, times))


def first_table(stock, rules):
    """The rows of the kinds, a column for each rule and then for each kind, and last the row of what is gained."""
    kinds = [kind for kind, ports in stock]
    rows = []
    for kind in kinds:
        rows.append([lost(kind, rule) for rule in rules] + [1 if own == kind else 0 for own in kinds])
    rows.append([1] * len(rules) + [0] * len(kinds))
    return rows


def gaining_column(table):
    """The first column by which something is gained, or None."""
    for column, gain in enumerate(table[-1]):
        if gain > 0:
            return column
    return None


def bounding_row(table, base, column):
    """The row that bounds a column, or None."""
    rows = [row for row in range(len(base)) if table[row][column] > 0]
    # The first column and the row of the first base column are chosen each time: so no table comes again.
    return min(rows, key=lambda row: base[row], default=None)


def turned(table, unit, row, column):
    """The table with the column cleared but for that row; the unit is what stands for 1 in the table."""
    pivot = table[row]
    rows = []
    for at, numbers in enumerate(table):
        if at == row:
            rows.append(pivot)
        else:
            # The unit divides these without a rest, as all numbers are minors of the first table.
            factor = numbers[column]
            rows.append([(pivot[column] * here - factor * there) // unit for here, there in zip(numbers, pivot)])
    return rows


def times_found(table, base, unit, column, many):
    """The times of so many rules, where a column has no bound."""
    amounts = {own: -table[row][column] for row, own in enumerate(base)}
    amounts[column] = unit
    return tuple(amounts.get(rule, 0) for rule in range(many))


def weighed(stock, rules):
    """The tuple of a weight by which all rules fall, or of times that show that there is none."""
    many = len(rules)
    table = first_table(stock, rules)
    base = list(range(many, many + len(stock)))
    unit = 1
    column = gaining_column(table)
    while column is not None:
        row = bounding_row(table, base, column)
        if row is None:
            return ("none", times_found(table, base, unit, column, many))
        table, unit = turned(table, unit, row, column), table[row][column]
        base[row] = column
        column = gaining_column(table)
    return ("weight", tuple(-gain for gain in table[-1][many:]))


def shows_weighed(stock, rules, thing):
    """Whether it is such a tuple, of anything."""
    if not is_tuple(thing, 2):
        return False
    word, numbers = thing
    if word == "weight":
        return fall_by(stock, numbers, rules)
    return word == "none" and are_times(stock, rules, numbers)


def are_times(stock, rules, thing):
    """Whether it is a tuple of times that show that there is no weight by which all rules fall, of anything."""
    if not are_amounts(thing, len(rules)) or not any(number > 0 for number in thing):
        return False
    return all(lost_in_all(kind, rules, thing) <= 0 for kind, ports in stock)
