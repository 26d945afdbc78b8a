"""What of the told can't go together, and what was told for nothing.

A set of what is told is a number, in which the one with number t counts 2 to the power of t.
"""

from likeliersets.byshares import disagreed, shares_in_order


def set_of(numbers):
    chosen = 0
    for number in numbers:
        chosen += 1 << number
    return chosen


def wrong_sets(worlds, told):
    # Thousands of shares disagree with no more than 64 different sets of what is told.
    found = {}
    for shares in shares_in_order(worlds):
        found[set_of(disagreed(shares, told))] = True
    return sorted(found)


def some_fit(wrong):
    return 0 in wrong


def some_agree(chosen, wrong):
    return any([(chosen & disagreeing) == 0 for disagreeing in wrong])


def one_left_out(chosen, how_many):
    return [chosen - (1 << number) for number in range(how_many) if (chosen >> number) & 1 == 1]


def is_clash(chosen, how_many, wrong):
    if some_agree(chosen, wrong):
        return False
    return all([some_agree(fewer, wrong) for fewer in one_left_out(chosen, how_many)])


def all_clashes(how_many, wrong):
    return [chosen for chosen in range(1 << how_many) if is_clash(chosen, how_many, wrong)]


def all_spare(how_many, wrong):
    # Without one that is told, more would fit just where some disagree with that one alone.
    return [number for number in range(how_many) if (1 << number) not in wrong]
