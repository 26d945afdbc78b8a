"""Point 4: what holds of the rules, whatever is told."""

import math
import random
import unittest

from tests.helper import (
    ALIKE, BEYOND, BROKEN, CAN, CLASHES, SPARE, STATE, WHOLE, after, all_shares, asked_of_pairs, chance, fits, given,
    look, model_fitting, model_fits, pairs_apart, rules, settled, share, told_at_hand, told_by_shares, wrong)


class RulesHoldTest(unittest.TestCase):
    def assert_so_by(self, table, x):
        for pair, level in table.items():
            more = share(pair[0], x) - share(pair[1], x)
            self.assertFalse(level == 2 and more <= 0, (pair, x))
            self.assertFalse(level == 1 and more < 0, (pair, x))

    def test_so_by_shares_however_many(self):
        source = random.Random(8)
        for x in ([1, 2, 4, 8], [3, 5, 7], [20, 31, 1, 15], [1, 1, 2, 3], [0, 40, 17], [1000, 999]):
            told = told_by_shares(source, x, 4)
            self.assert_so_by(asked_of_pairs(rules, len(x), told), x)

    def test_so_by_all_shares_that_agree(self):
        source = random.Random(9)
        for n in (1, 2, 2, 3, 3, 3):
            told = told_by_shares(source, [source.randrange(4) for world in range(n - 1)] + [1], 3)
            table = asked_of_pairs(rules, n, told)
            for x in model_fitting(n, told, 14):
                self.assert_so_by(table, x)

    def test_all_shares_tell_no_less_than_rules(self):
        source = random.Random(10)
        for n in (2, 3, 3, 4):
            told = told_by_shares(source, [source.randrange(3) for world in range(n - 1)] + [1], 3)
            by_shares = asked_of_pairs(all_shares, n, told)
            for pair, level in asked_of_pairs(rules, n, told).items():
                self.assertLessEqual(level, by_shares[pair], (told, pair))

    def test_where_broken_no_shares_agree(self):
        source = random.Random(11)
        broken = 0
        for turn in range(80):
            n = source.randrange(1, 5)
            told = told_at_hand(source, n, 5)
            answered = after(n, told, BROKEN, CAN)
            if answered[0] == [1]:
                broken += 1
                self.assertEqual(answered[1], [0], told)
                for x in ([1] * n, [2 ** world for world in range(n)], [100 + world for world in range(n)]):
                    self.assertFalse(model_fits(x, told))
        self.assertGreater(broken, 10)

    def test_what_was_told_they_tell(self):
        source = random.Random(12)
        for turn in range(60):
            n = source.randrange(1, 6)
            told = told_at_hand(source, n, 6)
            for kind, a, b in told:
                answered = after(n, told, rules(a, b), rules(b, a))
                self.assertGreaterEqual(answered[0][0], 2 if kind == 0 else 1)
                if kind == 2:
                    self.assertGreaterEqual(answered[1][0], 1)

    def test_told_to_all_shares_too(self):
        source = random.Random(13)
        for n in (2, 3, 4):
            told = told_by_shares(source, [1] * n, 4)
            for kind, a, b in told:
                answered = after(n, told, all_shares(a, b), all_shares(b, a))
                self.assertGreaterEqual(answered[0][0], 2 if kind == 0 else 1)
                if kind == 2:
                    self.assertGreaterEqual(answered[1][0], 1)


class CallsHoldTogetherTest(unittest.TestCase):
    """What the calls answer by rules, beside what they answer by shares."""

    def some_told(self):
        source = random.Random(15)
        for n in (1, 2, 2, 3, 3, 3, 4, 4, 4, 4):
            yield n, told_by_shares(source, [source.randrange(4) for world in range(n - 1)] + [1], 5)

    def test_what_is_settled_is_spare(self):
        found = 0
        for n, told in self.some_told():
            spare = after(n, told, SPARE)[0][1:]
            for t in range(len(told)):
                if after(n, told, settled(t)) == [[1]]:
                    found += 1
                    self.assertIn(t, spare, told)
        self.assertGreater(found, 5)

    def test_settled_is_told_by_the_rules_without_it(self):
        for n, told in self.some_told():
            for t, (kind, a, b) in enumerate(told):
                others = told[:t] + told[t + 1:]
                there, back = after(n, others, rules(a, b), rules(b, a))
                expected = [there[0] == 2, there[0] > 0, there[0] > 0 and back[0] > 0][kind]
                self.assertEqual(after(n, told, settled(t)), [[int(expected)]], (told, t))

    def test_alike_have_as_much_by_all_shares(self):
        found = 0
        alike = [(3, [(2, 1, 6), (2, 2, 4)]), (4, [(2, 3, 12), (2, 1, 4)]), (5, [(2, 3, 12), (2, 1, 4), (2, 16, 0)])]
        for n, told in [*self.some_told(), *alike]:
            pairs = after(n, told, ALIKE)[0][1:]
            for a, b in zip(pairs[::2], pairs[1::2]):
                found += 1
                self.assertEqual(a & b, 0)
                self.assertEqual(after(n, told, all_shares(a, b), all_shares(b, a)), [[1], [1]])
                one, other = after(n, told, chance(a), chance(b))
                self.assertEqual(one, other)
        self.assertGreater(found, 5)

    def test_whole_and_beyond_are_what_rules_and_all_shares_say(self):
        for n, told in self.some_told():
            table = asked_of_pairs(rules, n, told)
            by_shares = asked_of_pairs(all_shares, n, told)
            more = [pair for pair in pairs_apart(n) if by_shares[pair] > table[pair]]
            whole = all(table[a, b] or table[b, a] for a, b in pairs_apart(n))
            self.assertEqual(after(n, told, WHOLE, BEYOND),
                             [[int(whole)], [len(more), *more[0]] if more else [0]], told)

    def test_where_broken_nothing_is_answered_by_shares(self):
        source = random.Random(16)
        broken = 0
        for turn in range(60):
            n = source.randrange(1, 5)
            told = told_at_hand(source, n, 5)
            if after(n, told, BROKEN) == [[1]]:
                broken += 1
                answered = after(n, told, chance(1), given(1, 0, 1), SPARE, BEYOND, CLASHES)
                self.assertEqual(answered[:4], [[-33]] * 4, told)
                self.assertGreater(answered[4][0], 0, told)
        self.assertGreater(broken, 10)

    def test_chances_by_multiplied_shares_are_the_same(self):
        # Told so that only the shares 2, 1, 1 and what is multiplied from them fit.
        told = [(2, 1, 6), (2, 2, 4)]
        self.assertEqual(after(3, told, fits([2, 1, 1]), fits([4, 2, 2]), wrong([4, 2, 2]), chance(1), chance(4)),
                         [[1], [1], [0], [0, 1, 2, 1, 2], [0, 1, 4, 1, 4]])

    def test_fractions_have_no_common_divisor(self):
        for n, told in self.some_told():
            for a in range(2 ** n):
                answered = after(n, told, chance(a))[0]
                self.assertEqual((answered[0], len(answered)), (0, 5))
                self.assertEqual([math.gcd(*answered[1:3]), math.gcd(*answered[3:])], [1, 1])
                self.assertLessEqual(answered[1] * answered[4], answered[3] * answered[2])

    def test_asking_changes_nothing(self):
        asks = [BEYOND, WHOLE, chance(1), given(1, 0, 1), ALIKE, CLASHES, SPARE, settled(0), look(0), STATE]
        for n, told in self.some_told():
            first = after(n, told, *asks)
            for ask in asks:
                self.assertEqual(after(n, told, ask, *asks)[1:], first)
            self.assertEqual(after(n, told, look(0), look(4), STATE), [list(told[0]), list(told[4]), [n, 5]])


class RulesGoOnTest(unittest.TestCase):
    def tables(self):
        source = random.Random(14)
        for n in (1, 2, 3, 3, 3, 4):
            yield n, asked_of_pairs(rules, n, told_at_hand(source, n, 3))

    def test_from_one_to_the_next(self):
        for n, table in self.tables():
            for (a, b), level in table.items():
                for c in range(2 ** n):
                    if level and table[b, c]:
                        self.assertGreaterEqual(table[a, c], max(level, table[b, c]))

    def test_with_anything_in_neither(self):
        for n, table in self.tables():
            for (a, b), level in table.items():
                for c in range(2 ** n):
                    if c & (a | b) == 0:
                        self.assertEqual(table[a | c, b | c], level)

    def test_opposites_go_the_other_way_round(self):
        for n, table in self.tables():
            every = 2 ** n - 1
            for (a, b), level in table.items():
                self.assertEqual(table[every - b, every - a], level)


if __name__ == "__main__":
    unittest.main()
