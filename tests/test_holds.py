"""Point 4: what holds of the rules, whatever is told."""

import random
import unittest

from tests.helper import (
    BROKEN, CAN, after, all_shares, asked_of_pairs, model_agrees, model_fitting, model_fits, rules, share,
    told_at_hand)


def told_by_shares(source, x, most):
    """Something told that the shares agree with, so that it isn't broken."""
    told = []
    while len(told) < most:
        one = (source.randrange(3), source.randrange(2 ** len(x)), source.randrange(2 ** len(x)))
        if model_agrees(x, one):
            told.append(one)
    return told


class RulesHoldTest(unittest.TestCase):
    def assert_so_by(self, table, x):
        for pair, level in table.items():
            more = share(pair[0], x) - share(pair[1], x)
            self.assertFalse(level == 2 and more <= 0, (pair, x))
            self.assertFalse(level == 1 and more < 0, (pair, x))

    def test_so_by_shares_however_many(self):
        source = random.Random(8)
        for x in ([1, 2, 4, 8], [3, 5, 7], [20, 31, 1, 15], [1, 1, 2, 3], [0, 40, 17], [1000, 999]):
            told = told_by_shares(source, x, 4)
            self.assert_so_by(asked_of_pairs(rules, len(x), told), x)

    def test_so_by_all_shares_that_agree(self):
        source = random.Random(9)
        for n in (1, 2, 2, 3, 3, 3):
            told = told_by_shares(source, [source.randrange(4) for world in range(n - 1)] + [1], 3)
            table = asked_of_pairs(rules, n, told)
            for x in model_fitting(n, told, 14):
                self.assert_so_by(table, x)

    def test_all_shares_tell_no_less_than_rules(self):
        source = random.Random(10)
        for n in (2, 3, 3, 4):
            told = told_by_shares(source, [source.randrange(3) for world in range(n - 1)] + [1], 3)
            by_shares = asked_of_pairs(all_shares, n, told)
            for pair, level in asked_of_pairs(rules, n, told).items():
                self.assertLessEqual(level, by_shares[pair], (told, pair))

    def test_where_broken_no_shares_agree(self):
        source = random.Random(11)
        broken = 0
        for turn in range(80):
            n = source.randrange(1, 5)
            told = told_at_hand(source, n, 5)
            answered = after(n, told, BROKEN, CAN)
            if answered[0] == [1]:
                broken += 1
                self.assertEqual(answered[1], [0], told)
                for x in ([1] * n, [2 ** world for world in range(n)], [100 + world for world in range(n)]):
                    self.assertFalse(model_fits(x, told))
        self.assertGreater(broken, 10)

    def test_what_was_told_they_tell(self):
        source = random.Random(12)
        for turn in range(60):
            n = source.randrange(1, 6)
            told = told_at_hand(source, n, 6)
            for kind, a, b in told:
                answered = after(n, told, rules(a, b), rules(b, a))
                self.assertGreaterEqual(answered[0][0], 2 if kind == 0 else 1)
                if kind == 2:
                    self.assertGreaterEqual(answered[1][0], 1)

    def test_told_to_all_shares_too(self):
        source = random.Random(13)
        for n in (2, 3, 4):
            told = told_by_shares(source, [1] * n, 4)
            for kind, a, b in told:
                answered = after(n, told, all_shares(a, b), all_shares(b, a))
                self.assertGreaterEqual(answered[0][0], 2 if kind == 0 else 1)
                if kind == 2:
                    self.assertGreaterEqual(answered[1][0], 1)


class RulesGoOnTest(unittest.TestCase):
    def tables(self):
        source = random.Random(14)
        for n in (1, 2, 3, 3, 3, 4):
            yield n, asked_of_pairs(rules, n, told_at_hand(source, n, 3))

    def test_from_one_to_the_next(self):
        for n, table in self.tables():
            for (a, b), level in table.items():
                for c in range(2 ** n):
                    if level and table[b, c]:
                        self.assertGreaterEqual(table[a, c], max(level, table[b, c]))

    def test_with_anything_in_neither(self):
        for n, table in self.tables():
            for (a, b), level in table.items():
                for c in range(2 ** n):
                    if c & (a | b) == 0:
                        self.assertEqual(table[a | c, b | c], level)

    def test_opposites_go_the_other_way_round(self):
        for n, table in self.tables():
            every = 2 ** n - 1
            for (a, b), level in table.items():
                self.assertEqual(table[every - b, every - a], level)


if __name__ == "__main__":
    unittest.main()
