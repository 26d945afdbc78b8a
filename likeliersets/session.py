"""The object that the calls are made on: its worlds, what it was told, what it answers.

An answer is a list of numbers; a refusal is a list of its number alone.
"""

from likeliersets.byrules import is_broken, table_by_rules
from likeliersets.byshares import disagreed, fit, fitting_shares, is_shares, told_by_all
from likeliersets.kinds import KIND_AS_LIKELY

MOST_WORLDS = 5
MOST_TOLD = 6

NONE_SUCH = -2
NOT_RIGHT = -22
TOO_MANY = -28
NO_SHARES = -33


class Session:
    def __init__(self):
        # No worlds stand for an object that has not begun: a begin lets at least one.
        self.worlds = 0
        self.told = []

    def has_begun(self):
        return self.worlds > 0

    def is_set(self, chosen):
        return chosen < (1 << self.worlds)

    def begin(self, worlds):
        if worlds < 1 or worlds > MOST_WORLDS:
            return [NOT_RIGHT]
        self.worlds = worlds
        self.told = []
        return [0]

    def tell(self, kind, first, second):
        if kind > KIND_AS_LIKELY or not self.is_set(first) or not self.is_set(second):
            return [NOT_RIGHT]
        if len(self.told) >= MOST_TOLD:
            return [TOO_MANY]
        self.told.append((kind, first, second))
        return [len(self.told) - 1]

    def untell(self, number):
        if number >= len(self.told):
            return [NONE_SUCH]
        self.told.pop(number)
        return [len(self.told)]

    def fitting(self):
        return fitting_shares(self.worlds, self.told)

    def can(self):
        return [1 if len(self.fitting()) > 0 else 0]

    def ways(self):
        return [len(self.fitting())]

    def plainest(self):
        fitting = self.fitting()
        if len(fitting) == 0:
            return [NO_SHARES]
        return [sum(fitting[0])] + fitting[0]

    def fits(self, shares):
        if not is_shares(shares, self.worlds):
            return [NOT_RIGHT]
        return [1 if fit(shares, self.told) else 0]

    def wrong(self, shares):
        if not is_shares(shares, self.worlds):
            return [NOT_RIGHT]
        numbers = disagreed(shares, self.told)
        return [len(numbers)] + numbers

    def all_shares(self, first, second):
        if not self.is_set(first) or not self.is_set(second):
            return [NOT_RIGHT]
        fitting = self.fitting()
        if len(fitting) == 0:
            return [NO_SHARES]
        return [told_by_all(first, second, fitting)]

    def rules(self, first, second):
        if not self.is_set(first) or not self.is_set(second):
            return [NOT_RIGHT]
        return [table_by_rules(self.worlds, self.told)[first][second]]

    def broken(self):
        return [1 if is_broken(table_by_rules(self.worlds, self.told)) else 0]
