"""Point 3: whole, alike, beyond."""

import random
import unittest

from tests.helper import (
    ALIKE, BEYOND, BROKEN, CAN, FIVE_WORLDS, FIVE_WORLDS_SUM, WHOLE, after, all_shares, model_alike, model_beyond,
    model_fitting, model_rules, model_whole, rules, tell, told_at_hand, told_by_shares, untell)

DOUBLES = [(0, 2, 1), (0, 4, 3), (0, 8, 7), (0, 16, 15)]
FIVE_ALIKE = [(2, 1, 2), (2, 2, 4), (2, 4, 8), (2, 8, 16)]
# 01 over 2 and 02 over 1: by shares world 0 has some, by rules that isn't told.
TWICE_ZERO = [(0, 3, 4), (0, 5, 2)]


def flat(pairs):
    return [len(pairs)] + [chosen for pair in pairs for chosen in pair]


class WholeTest(unittest.TestCase):
    def test_nothing_told(self):
        self.assertEqual([after(n, [], WHOLE)[0] for n in range(1, 6)], [[1], [0], [0], [0], [0]])

    def test_two_worlds(self):
        for told in ([(0, 1, 2)], [(1, 1, 2)], [(2, 1, 2)], [(0, 2, 1)], [(1, 2, 1)], [(2, 2, 1)], [(2, 1, 0)]):
            self.assertEqual(after(2, told, WHOLE), [[1]], told)
        for told in ([(0, 1, 0)], [(0, 1, 0), (0, 2, 0)], [(1, 3, 2)], [(2, 1, 1)]):
            self.assertEqual(after(2, told, WHOLE), [[0]], told)

    def test_one_pair_is_missing(self):
        # Of {0, 1} and {2} nothing is told.
        self.assertEqual(after(3, [(1, 2, 1), (1, 4, 2)], WHOLE, rules(3, 4), rules(4, 3), tell(1, 3, 4), WHOLE),
                         [[0], [0], [0], [2], [1]])
        self.assertEqual(after(3, [(1, 2, 1), (1, 4, 2)], tell(0, 4, 3), WHOLE, untell(2), WHOLE),
                         [[2], [1], [2], [0]])

    def test_a_pair_of_two_and_three_worlds_is_missing(self):
        table = model_rules(5, FIVE_ALIKE[:3])
        self.assertEqual(after(5, FIVE_ALIKE[:3], WHOLE), [[model_whole(5, table)]])
        self.assertEqual(after(5, FIVE_ALIKE[:3], WHOLE), [[0]])

    def test_five_worlds(self):
        self.assertEqual(after(5, FIVE_ALIKE, WHOLE, CAN), [[1], [1]])
        self.assertEqual(after(5, FIVE_WORLDS, WHOLE), [[0]])

    def test_no_shares_are_needed(self):
        self.assertEqual(after(5, DOUBLES, WHOLE, CAN, untell(3), WHOLE), [[1], [0], [3], [0]])
        self.assertEqual(after(2, [(0, 1, 2), (0, 2, 1)], WHOLE, BROKEN), [[1], [1]])
        self.assertEqual(after(2, [(0, 1, 1)], WHOLE, BROKEN), [[0], [1]])

    def test_as_the_model_says(self):
        source = random.Random(29)
        found = []
        for turn in range(40):
            n = source.randrange(2, 4)
            told = told_at_hand(source, n, 4)
            found.append(model_whole(n, model_rules(n, told)))
            self.assertEqual(after(n, told, WHOLE), [[found[-1]]], (n, told))
        self.assertEqual(set(found), {0, 1})


class AlikeTest(unittest.TestCase):
    def test_nothing_told(self):
        for n in range(1, 6):
            self.assertEqual(after(n, [], ALIKE), [[0]])

    def test_two_worlds(self):
        for told in ([(2, 1, 2)], [(2, 2, 1)], [(1, 1, 2), (1, 2, 1)], [(2, 1, 2), (2, 1, 2)]):
            self.assertEqual(after(2, told, ALIKE), [[1, 1, 2]], told)
        for told in ([(0, 1, 2)], [(1, 1, 2)], [(2, 1, 1)]):
            self.assertEqual(after(2, told, ALIKE), [[0]], told)

    def test_with_the_empty_set(self):
        self.assertEqual(after(2, [(2, 1, 0)], ALIKE), [[1, 0, 1]])
        self.assertEqual(after(2, [(1, 0, 2)], ALIKE), [[1, 0, 2]])
        self.assertEqual(after(3, [(2, 1, 0), (2, 2, 0)], ALIKE), [[4, 0, 1, 0, 2, 0, 3, 1, 2]])
        # World 1 counts for nothing, and worlds 0 and 2 for as much: with world 1 on either side it is the same.
        self.assertEqual(after(3, [(2, 2, 0), (2, 4, 1)], ALIKE), [[4, 0, 2, 1, 4, 1, 6, 3, 4]])

    def test_order_of_pairs(self):
        self.assertEqual(after(3, [(2, 4, 2), (2, 4, 1)], ALIKE), [[3, 1, 2, 1, 4, 2, 4]])
        self.assertEqual(after(4, [(2, 8, 1), (2, 4, 2), (2, 2, 1)], ALIKE),
                         [flat([(1, 2), (1, 4), (1, 8), (2, 4), (2, 8), (3, 12), (4, 8), (5, 10), (6, 9)])])

    def test_without_a_world_in_common(self):
        self.assertEqual(after(3, [(2, 3, 6)], rules(3, 6), rules(6, 3), ALIKE), [[1], [1], [1, 1, 4]])

    def test_neither_is_likelier(self):
        self.assertEqual(after(2, [(0, 1, 2), (0, 2, 1)], rules(1, 2), rules(2, 1), ALIKE), [[2], [2], [0]])
        self.assertEqual(after(2, [(0, 1, 2), (2, 1, 2)], rules(1, 2), rules(2, 1), ALIKE), [[2], [2], [0]])

    def test_five_worlds(self):
        # Of five that are alike: 10 pairs of one and one, 15 of two and two.
        answered = after(5, FIVE_ALIKE, ALIKE)[0]
        self.assertEqual(answered[0], 25)
        self.assertEqual(answered, flat(model_alike(5, model_rules(5, FIVE_ALIKE))))
        self.assertEqual(after(5, FIVE_WORLDS, ALIKE), [[0]])

    def test_told_and_untold_between(self):
        self.assertEqual(after(2, [], ALIKE, tell(2, 2, 1), ALIKE, untell(0), ALIKE), [[0], [0], [1, 1, 2], [0], [0]])

    def test_no_shares_are_needed(self):
        told = [(2, 1, 2)] + [(0, 4, 3), (0, 8, 7), (0, 16, 15), (0, 1, 0)]
        self.assertEqual(after(5, told, CAN, ALIKE), [[0], [1, 1, 2]])

    def test_as_the_model_says(self):
        source = random.Random(30)
        found = []
        for turn in range(40):
            n = source.randrange(1, 5) if turn < 10 else source.randrange(1, 4)
            told = [(2, a, b) if source.randrange(2) else (k, a, b) for k, a, b in told_at_hand(source, n, 3)]
            expected = model_alike(n, model_rules(n, told))
            found.append(len(expected))
            self.assertEqual(after(n, told, ALIKE), [flat(expected)], (n, told))
        self.assertGreater(max(found), 3)


class BeyondTest(unittest.TestCase):
    def test_nothing_beyond(self):
        for n in range(1, 6):
            self.assertEqual(after(n, [], BEYOND), [[0]])
        for told in ([(0, 1, 2)], [(2, 1, 0)], [(1, 1, 0)], [(0, 1, 0), (0, 2, 0)], [(2, 3, 3)]):
            self.assertEqual(after(2, told, BEYOND), [[0]], told)

    def test_two_worlds(self):
        # Together they have some, so the one that is no less likely has some: the rules don't tell it.
        self.assertEqual(after(2, [(1, 1, 2)], BEYOND, rules(1, 0), all_shares(1, 0)), [[1, 1, 0], [1], [2]])
        self.assertEqual(after(2, [(1, 2, 1)], BEYOND), [[1, 2, 0]])
        self.assertEqual(after(2, [(2, 1, 2)], BEYOND), [[2, 1, 0]])

    def test_five_worlds_of_which_rules_tell_less(self):
        expected = model_beyond(5, model_rules(5, FIVE_WORLDS), model_fitting(5, FIVE_WORLDS))
        self.assertIn(FIVE_WORLDS_SUM, expected)
        self.assertEqual(after(5, FIVE_WORLDS, BEYOND), [[13, 2, 4]])
        self.assertEqual([len(expected), *expected[0]], [13, 2, 4])

    def test_with_the_empty_set(self):
        self.assertEqual(after(3, TWICE_ZERO, BEYOND, rules(1, 0), all_shares(1, 0)), [[1, 1, 0], [1], [2]])

    def test_likelier_is_more_than_no_less(self):
        # Twice 0 is more than none; and so is 0 with 2.
        self.assertEqual(after(3, [(0, 3, 4), (1, 5, 2)], BEYOND, rules(1, 0), rules(5, 0), all_shares(5, 0)),
                         [[2, 1, 0], [1], [1], [2]])

    def test_no_less_is_more_than_nothing(self):
        # 0 with 1 no less than 2 with 3, and 0 with 2 no less than 1 with 3: twice 0 is no less than twice 3.
        told = [(1, 3, 12), (1, 5, 10)]
        # Were there none of 0 and 1, or of 0 and 2, there would be none at all: five pairs more, with the empty set.
        self.assertEqual(after(4, told, rules(1, 8), all_shares(1, 8), BEYOND), [[0], [1], [6, 1, 8]])
        self.assertEqual(after(4, told + [(0, 3, 0), (0, 5, 0)], BEYOND), [[1, 1, 8]])

    def test_as_much_is_not_beyond(self):
        self.assertEqual(after(3, TWICE_ZERO + [(0, 1, 0)], BEYOND), [[0]])

    def test_pairs_have_no_world_in_common(self):
        # 01 over 1 goes beyond too, but isn't such a pair.
        self.assertEqual(after(3, TWICE_ZERO, rules(3, 2), all_shares(3, 2), BEYOND), [[1], [2], [1, 1, 0]])

    def test_shares_above_ten_do_not_count(self):
        told = [(0, 1, 0), (0, 2, 1), (0, 4, 2), (0, 8, 4)]
        expected = model_beyond(4, model_rules(4, told), [[1, 2, 3, 4]])
        self.assertEqual(after(4, told, BEYOND), [[len(expected), *expected[0]]])
        self.assertEqual(expected[0], (3, 4))

    def test_none_fit(self):
        self.assertEqual(after(2, [(0, 1, 1)], BEYOND), [[-33]])
        self.assertEqual(after(5, DOUBLES, BEYOND, BROKEN), [[-33], [0]])

    def test_told_and_untold_between(self):
        self.assertEqual(after(3, TWICE_ZERO, BEYOND, tell(0, 1, 0), BEYOND, untell(2), BEYOND, untell(0), BEYOND),
                         [[1, 1, 0], [2], [0], [2], [1, 1, 0], [1], [0]])

    def test_as_the_model_says(self):
        source = random.Random(31)
        found = []
        for turn in range(60):
            n = source.randrange(3, 5) if turn < 12 else source.randrange(1, 4)
            told = told_by_shares(source, [source.randrange(4) for world in range(n - 1)] + [1], source.randrange(6))
            expected = model_beyond(n, model_rules(n, told), model_fitting(n, told))
            found.append(len(expected))
            first = list(expected[0]) if expected else []
            self.assertEqual(after(n, told, BEYOND), [[len(expected)] + first], (n, told))
        self.assertGreater(max(found), 2)
        self.assertEqual(min(found), 0)


if __name__ == "__main__":
    unittest.main()
