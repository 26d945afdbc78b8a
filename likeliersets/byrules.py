"""What the rules tell of any two sets.

A table holds, for each first set, a row with how much is told of it and each second set.
"""

from likeliersets.kinds import KIND_AS_LIKELY, KIND_LIKELIER, KIND_NO_LESS, LIKELIER, NO_LESS, NOTHING


def row_of_parts(first, size):
    return [NO_LESS if (first | second) == first else NOTHING for second in range(size)]


def raise_to(table, first, second, level):
    table[first][second] = max(table[first][second], level)


def table_at_first(worlds, told):
    size = 1 << worlds
    table = [row_of_parts(first, size) for first in range(size)]
    raise_to(table, size - 1, 0, LIKELIER)
    for one in told:
        raise_to(table, one[1], one[2], LIKELIER if one[0] == KIND_LIKELIER else NO_LESS)
        if one[0] == KIND_AS_LIKELY:
            raise_to(table, one[2], one[1], NO_LESS)
    return table


def without(chosen, others):
    return chosen - (chosen & others)


def highest_apart(table):
    size = len(table)
    apart = [[NOTHING] * size for first in range(size)]
    for first in range(size):
        for second in range(size):
            raise_to(apart, without(first, second), without(second, first), table[first][second])
    return apart


def row_with_common(first, apart):
    return [apart[without(first, second)][without(second, first)] for second in range(len(apart))]


def same_with_any_put_to_both(table):
    # Two pairs of sets come of one another by worlds put to both or left out of both just
    # where both pairs, without their common worlds, are the same: so the most of all goes for all.
    apart = highest_apart(table)
    return [row_with_common(first, apart) for first in range(len(apart))]


def row_through(row, level, onward):
    longer = []
    for direct, step in zip(row, onward):
        longer.append(direct if step == NOTHING else max(direct, level, step))
    return longer


def from_one_to_the_next(table):
    rows = list(table)
    for middle in range(len(rows)):
        for first in range(len(rows)):
            level = rows[first][middle]
            if level != NOTHING:
                rows[first] = row_through(rows[first], level, rows[middle])
    return rows


def table_by_rules(worlds, told):
    table = table_at_first(worlds, told)
    grown = from_one_to_the_next(same_with_any_put_to_both(table))
    # Each rule may feed the other one, so both are used until neither adds anything.
    while grown != table:
        table = grown
        grown = from_one_to_the_next(same_with_any_put_to_both(table))
    return table


def is_broken(table):
    return LIKELIER in [table[chosen][chosen] for chosen in range(len(table))]


def is_told_by(table, one):
    level = table[one[1]][one[2]]
    if one[0] == KIND_LIKELIER:
        return level == LIKELIER
    if one[0] == KIND_NO_LESS:
        return level != NOTHING
    return level != NOTHING and table[one[2]][one[1]] != NOTHING
