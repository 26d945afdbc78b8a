"""What holds over all pairs of sets without a world in common.

A pair is a tuple of two sets; a table holds what the rules tell of any two.
"""

from likeliersets.byshares import told_by_all
from likeliersets.kinds import NO_LESS, NOTHING


def pairs_apart(size):
    pairs = []
    for first in range(size):
        for second in range(size):
            if (first & second) == 0:
                pairs.append((first, second))
    return pairs


def is_told_of(table, pair):
    return table[pair[0]][pair[1]] != NOTHING or table[pair[1]][pair[0]] != NOTHING


def is_whole(table):
    return all([is_told_of(table, pair) for pair in pairs_apart(len(table))])


def is_alike(table, pair):
    return table[pair[0]][pair[1]] == NO_LESS and table[pair[1]][pair[0]] == NO_LESS


def alike_pairs(table):
    # The lesser set stands first, so a pair comes once, and the empty set makes none with itself.
    lesser_first = [pair for pair in pairs_apart(len(table)) if pair[0] < pair[1]]
    return [pair for pair in lesser_first if is_alike(table, pair)]


def is_beyond(table, pair, fitting):
    return told_by_all(pair[0], pair[1], fitting) > table[pair[0]][pair[1]]


def beyond_pairs(table, fitting):
    return [pair for pair in pairs_apart(len(table)) if is_beyond(table, pair, fitting)]
