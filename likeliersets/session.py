"""The object that the calls are made on: its worlds, what it was told, what it answers.

An answer is a list of numbers; a refusal is a list of its number alone.
"""

from likeliersets.byrules import is_broken, is_told_by, table_by_rules
from likeliersets.byshares import disagreed, fit, fitting_shares, is_shares, some_have_none, told_by_all
from likeliersets.chances import as_fraction, greatest_chance, least_chance
from likeliersets.clashing import all_clashes, all_spare, some_fit, wrong_sets
from likeliersets.kinds import KIND_AS_LIKELY
from likeliersets.pairs import alike_pairs, beyond_pairs, is_whole

MOST_WORLDS = 5
MOST_TOLD = 6

NONE_SUCH = -2
NOT_RIGHT = -22
TOO_MANY = -28
NO_SHARES = -33
# The document has one number for both: each call knows only one of them.
SOME_SHARES = -33
MAY_HAVE_NONE = -62


class Session:
    def __init__(self):
        # No worlds stand for an object that has not begun: a begin lets at least one.
        self.worlds = 0
        self.told = []

    def has_begun(self):
        return self.worlds > 0

    def is_set(self, chosen):
        return chosen < (1 << self.worlds)

    def begin(self, worlds):
        if worlds < 1 or worlds > MOST_WORLDS:
            return [NOT_RIGHT]
        self.worlds = worlds
        self.told = []
        return [0]

    def tell(self, kind, first, second):
        if kind > KIND_AS_LIKELY or not self.is_set(first) or not self.is_set(second):
            return [NOT_RIGHT]
        if len(self.told) >= MOST_TOLD:
            return [TOO_MANY]
        self.told.append((kind, first, second))
        return [len(self.told) - 1]

    def untell(self, number):
        if number >= len(self.told):
            return [NONE_SUCH]
        self.told.pop(number)
        return [len(self.told)]

    def look(self, number):
        if number >= len(self.told):
            return [NONE_SUCH]
        return list(self.told[number])

    def state(self):
        return [self.worlds, len(self.told)]

    def fitting(self):
        return fitting_shares(self.worlds, self.told)

    def can(self):
        return [1 if len(self.fitting()) > 0 else 0]

    def ways(self):
        return [len(self.fitting())]

    def plainest(self):
        fitting = self.fitting()
        if len(fitting) == 0:
            return [NO_SHARES]
        return [sum(fitting[0])] + fitting[0]

    def fits(self, shares):
        if not is_shares(shares, self.worlds):
            return [NOT_RIGHT]
        return [1 if fit(shares, self.told) else 0]

    def wrong(self, shares):
        if not is_shares(shares, self.worlds):
            return [NOT_RIGHT]
        numbers = disagreed(shares, self.told)
        return [len(numbers)] + numbers

    def all_shares(self, first, second):
        if not self.is_set(first) or not self.is_set(second):
            return [NOT_RIGHT]
        fitting = self.fitting()
        if len(fitting) == 0:
            return [NO_SHARES]
        return [told_by_all(first, second, fitting)]

    def given(self, first, second, within):
        if not self.is_set(first) or not self.is_set(second) or not self.is_set(within):
            return [NOT_RIGHT]
        fitting = self.fitting()
        if len(fitting) == 0:
            return [NO_SHARES]
        if some_have_none(within, fitting):
            return [MAY_HAVE_NONE]
        return [told_by_all(first & within, second & within, fitting)]

    def chance(self, chosen):
        if not self.is_set(chosen):
            return [NOT_RIGHT]
        fitting = self.fitting()
        if len(fitting) == 0:
            return [NO_SHARES]
        return [0] + as_fraction(least_chance(chosen, fitting)) + as_fraction(greatest_chance(chosen, fitting))

    def spare(self):
        wrong = wrong_sets(self.worlds, self.told)
        if not some_fit(wrong):
            return [NO_SHARES]
        numbers = all_spare(len(self.told), wrong)
        return [len(numbers)] + numbers

    def clashes(self):
        wrong = wrong_sets(self.worlds, self.told)
        if some_fit(wrong):
            return [SOME_SHARES]
        sets = all_clashes(len(self.told), wrong)
        return [len(sets)] + sets

    def table(self):
        return table_by_rules(self.worlds, self.told)

    def rules(self, first, second):
        if not self.is_set(first) or not self.is_set(second):
            return [NOT_RIGHT]
        return [self.table()[first][second]]

    def broken(self):
        return [1 if is_broken(self.table()) else 0]

    def whole(self):
        return [1 if is_whole(self.table()) else 0]

    def alike(self):
        pairs = alike_pairs(self.table())
        answer = [len(pairs)]
        for pair in pairs:
            answer.extend(list(pair))
        return answer

    def beyond(self):
        fitting = self.fitting()
        if len(fitting) == 0:
            return [NO_SHARES]
        pairs = beyond_pairs(self.table(), fitting)
        if len(pairs) == 0:
            return [0]
        return [len(pairs)] + list(pairs[0])

    def settled(self, number):
        if number >= len(self.told):
            return [NONE_SUCH]
        others = self.told[:number] + self.told[number + 1:]
        return [1 if is_told_by(table_by_rules(self.worlds, others), self.told[number]) else 0]
