"""Shares, which of them agree with what is told, and what all of those say.

What is told is a tuple: its kind, its first set, its second set.
"""

from likeliersets.kinds import KIND_LIKELIER, KIND_NO_LESS, LIKELIER, NO_LESS, NOTHING

MOST_TOGETHER = 10


def is_shares(numbers, worlds):
    return len(numbers) == worlds and 1 <= sum(numbers) <= MOST_TOGETHER


def share_of(chosen, shares):
    together = 0
    for world, share in enumerate(shares):
        if (chosen >> world) & 1 == 1:
            together += share
    return together


def lead(first, second, shares):
    return share_of(first, shares) - share_of(second, shares)


def agree(shares, one):
    more = lead(one[1], one[2], shares)
    if one[0] == KIND_LIKELIER:
        return more > 0
    if one[0] == KIND_NO_LESS:
        return more >= 0
    return more == 0


def disagreed(shares, told):
    return [number for number, one in enumerate(told) if not agree(shares, one)]


def fit(shares, told):
    for one in told:
        if not agree(shares, one):
            return False
    return True


def one_world_more(rows, together):
    longer = []
    for row in rows:
        for share in range(together - sum(row) + 1):
            longer.append(row + [share])
    return longer


def shares_together(worlds, together):
    rows = [[]]
    # The last world has no choice: what the others leave is its share.
    for world in range(worlds - 1):
        rows = one_world_more(rows, together)
    return [row + [together - sum(row)] for row in rows]


def shares_in_order(worlds):
    ordered = []
    for together in range(1, MOST_TOGETHER + 1):
        ordered.extend(shares_together(worlds, together))
    return ordered


def some_have_none(chosen, fitting):
    return any([share_of(chosen, shares) == 0 for shares in fitting])


def fitting_shares(worlds, told):
    return [shares for shares in shares_in_order(worlds) if fit(shares, told)]


def told_by_all(first, second, fitting):
    level = LIKELIER
    for shares in fitting:
        more = lead(first, second, shares)
        # One that goes the other way is enough: of many pairs the rest need not be gone through.
        if more < 0:
            return NOTHING
        if more == 0:
            level = NO_LESS
    return level
