"""Point 3: rules, broken."""

import random
import unittest

from tests.helper import (
    BROKEN, CAN, FIVE_WORLDS, FIVE_WORLDS_SUM, GREATEST, after, asked_of_pairs, model_rules, rules, told_at_hand)


class RulesTest(unittest.TestCase):
    def test_nothing_told(self):
        self.assertEqual(after(3, [], rules(7, 0), rules(3, 0), rules(3, 1), rules(5, 5), rules(0, 0), rules(7, 6)),
                         [[2], [1], [1], [1], [1], [1]])
        self.assertEqual(after(3, [], rules(0, 7), rules(0, 1), rules(1, 2), rules(3, 6), rules(6, 7)),
                         [[0], [0], [0], [0], [0]])

    def test_each_kind(self):
        self.assertEqual([after(3, [(k, 1, 2)], rules(1, 2), rules(2, 1)) for k in range(3)],
                         [[[2], [0]], [[1], [0]], [[1], [1]]])

    def test_from_one_to_the_next(self):
        for k, m, level in ((0, 0, 2), (0, 1, 2), (1, 0, 2), (0, 2, 2), (2, 0, 2), (1, 1, 1), (1, 2, 1), (2, 2, 1)):
            self.assertEqual(after(3, [(k, 1, 2), (m, 2, 4)], rules(1, 4)), [[level]], (k, m))
        self.assertEqual(after(3, [(2, 1, 2), (2, 2, 4)], rules(4, 1)), [[1]])
        # 0 over 1, that over none: 01 over 1, with 1 put to both.
        self.assertEqual(after(3, [(0, 1, 2)], rules(1, 0), rules(3, 2), rules(5, 2), rules(2, 0)),
                         [[2], [2], [2], [1]])

    def test_put_to_both_and_left_out(self):
        self.assertEqual(after(3, [(0, 1, 2)], rules(5, 6), rules(6, 5)), [[2], [0]])
        self.assertEqual(after(3, [(0, 5, 6)], rules(1, 2), rules(2, 1)), [[2], [0]])
        self.assertEqual(after(4, [(1, 5, 6)], rules(9, 10), rules(13, 14)), [[1], [1]])
        self.assertEqual(after(3, [(0, 3, 1)], rules(2, 0)), [[2]])

    def test_each_rule_feeds_the_other(self):
        # 0 over 1 gives 02 over 12, that is over 3: and so 0 with 2 over 3.
        self.assertEqual(after(4, [(0, 1, 2), (1, 6, 8)], rules(5, 8)), [[2]])
        # 01 over 23 and 2 over 1 give 0 with 2 over 01, over 23: 2 left out, 0 over 3.
        self.assertEqual(after(4, [(1, 3, 12), (0, 4, 2)], rules(5, 12), rules(1, 8)), [[2], [2]])

    def test_opposites_go_the_other_way_round(self):
        self.assertEqual(after(3, [(0, 1, 6)], rules(1, 6), rules(3, 4)), [[2], [2]])
        self.assertEqual(after(4, [(0, 1, 2)], rules(13, 14)), [[2]])

    def test_the_most_that_is_told_counts(self):
        self.assertEqual(after(2, [(0, 1, 2), (1, 1, 2)], rules(1, 2)), [[2]])
        self.assertEqual(after(2, [(1, 1, 2), (0, 1, 2)], rules(1, 2)), [[2]])

    def test_wrong_sets(self):
        for n in range(1, 6):
            self.assertEqual(after(n, [], rules(2 ** n, 0), rules(0, 2 ** n), rules(GREATEST, GREATEST),
                                   rules(2 ** n - 1, 0)), [[-22], [-22], [-22], [2]])

    def test_no_shares_are_needed(self):
        self.assertEqual(after(2, [(0, 1, 2), (0, 2, 1)], CAN, rules(1, 2), rules(4, 0)), [[0], [2], [-22]])

    def test_as_the_model_says(self):
        source = random.Random(6)
        for n in (1, 1, 2, 2, 2, 3, 3, 3, 3, 3, 3, 4, 4, 4):
            told = told_at_hand(source, n, 4)
            self.assertEqual(asked_of_pairs(rules, n, told), model_rules(n, told), (n, told))

    def test_five_worlds_as_the_model_says(self):
        self.assertEqual(asked_of_pairs(rules, 5, FIVE_WORLDS), model_rules(5, FIVE_WORLDS))


class BrokenTest(unittest.TestCase):
    def test_not_broken(self):
        for n in range(1, 6):
            self.assertEqual(after(n, [], BROKEN), [[0]])
        self.assertEqual(after(2, [(0, 1, 2)], BROKEN), [[0]])
        self.assertEqual(after(2, [(1, 1, 2), (1, 2, 1)], BROKEN), [[0]])

    def test_broken(self):
        for told in ([(0, 1, 1)], [(0, 0, 0)], [(0, 1, 2), (0, 2, 1)], [(0, 1, 2), (1, 2, 1)], [(0, 1, 2), (2, 1, 2)],
                     [(0, 0, 1)], [(2, 3, 0)], [(1, 0, 3)], [(0, 1, 3)]):
            self.assertEqual(after(2, told, BROKEN), [[1]], told)

    def test_broken_by_worlds_in_common(self):
        self.assertEqual(after(3, [(0, 5, 6), (1, 2, 1)], BROKEN), [[1]])
        self.assertEqual(after(3, [(0, 1, 2), (0, 2, 4), (1, 4, 1)], BROKEN), [[1]])

    def test_broken_tells_likelier_where_no_less_was(self):
        self.assertEqual(after(2, [(0, 1, 1)], rules(0, 0), rules(2, 2), rules(2, 0), rules(0, 2), rules(1, 2)),
                         [[2], [2], [2], [0], [0]])

    def test_no_shares_but_not_broken(self):
        told = FIVE_WORLDS + [(0, FIVE_WORLDS_SUM[1], FIVE_WORLDS_SUM[0])]
        self.assertEqual(after(5, told, CAN, BROKEN), [[0], [0]])

    def test_as_the_model_says(self):
        source = random.Random(7)
        for turn in range(25):
            n = source.randrange(1, 4)
            told = told_at_hand(source, n, 3)
            table = model_rules(n, told)
            expected = int(any([table[some, some] == 2 for some in range(2 ** n)]))
            self.assertEqual(after(n, told, BROKEN), [[expected]], (n, told))


if __name__ == "__main__":
    unittest.main()
