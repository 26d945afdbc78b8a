"""Point 2: can, ways, plainest, fits, wrong, all."""

import random
import unittest

from tests.helper import (
    CAN, FIVE_WORLDS, FIVE_WORLDS_SUM, GREATEST, PLAINEST, WAYS, after, all_shares, asked_of_pairs, fits, model_all,
    model_agrees, model_fits, model_fitting, told_at_hand, wrong)

# Each world above all that were before it: shares 1, 2, 4, 8.
DOUBLES = [(0, 1, 0), (0, 2, 1), (0, 4, 3), (0, 8, 7)]
# Shares 1, 2, 3, 4 at least: together just 10.
JUST_TEN = [(0, 1, 0), (0, 2, 1), (0, 4, 2), (0, 8, 4)]
# Shares 1, 2, 3, 5 at least: together 11.
JUST_ELEVEN = [(0, 1, 0), (0, 2, 1), (0, 4, 2), (0, 8, 5)]


class FittingTest(unittest.TestCase):
    def test_nothing_told(self):
        for n in range(1, 6):
            self.assertEqual(after(n, [], CAN, PLAINEST), [[1], [1] + [0] * (n - 1) + [1]])

    def test_the_less_together_comes_first(self):
        self.assertEqual(after(3, DOUBLES[:3], CAN, PLAINEST), [[1], [7, 1, 2, 4]])
        self.assertEqual(after(2, [(0, 1, 0)], PLAINEST), [[1, 1, 0]])

    def test_of_like_ones_the_lesser_at_the_first_that_differs(self):
        self.assertEqual(after(3, [(2, 3, 4)], PLAINEST), [[2, 0, 1, 1]])
        self.assertEqual(after(3, [(0, 3, 4)], PLAINEST), [[1, 0, 1, 0]])
        self.assertEqual(after(4, [(2, 1, 14), (0, 6, 8)], PLAINEST), [[2, 1, 0, 1, 0]])

    def test_together_ten_and_eleven(self):
        self.assertEqual(after(4, JUST_TEN, CAN, WAYS, PLAINEST), [[1], [1], [10, 1, 2, 3, 4]])
        self.assertEqual(after(4, JUST_ELEVEN, CAN, WAYS, PLAINEST), [[0], [0], [-33]])

    def test_none_fit(self):
        clash = [(0, 1, 2), (0, 2, 1)]
        self.assertEqual(after(2, clash, CAN, WAYS, PLAINEST, all_shares(1, 2)), [[0], [0], [-33], [-33]])

    def test_as_the_model_says(self):
        source = random.Random(2)
        for n in (1, 2, 3, 4, 2, 3, 4, 3, 4, 3, 4, 5, 5, 5):
            told = told_at_hand(source, n, 4)
            fitting = model_fitting(n, told)
            plainest = [sum(fitting[0])] + fitting[0] if fitting else [-33]
            self.assertEqual(after(n, told, CAN, WAYS, PLAINEST), [[int(fitting != [])], [len(fitting)], plainest])


class IsSharesTest(unittest.TestCase):
    def assert_refused(self, n, x):
        for call in (fits, wrong):
            self.assertEqual(after(n, [(1, 1, 0)], call(x)), [[-22]], x)

    def test_too_few_or_too_many_worlds(self):
        for n in range(1, 6):
            self.assert_refused(n, [1] * (n - 1))
            self.assert_refused(n, [1] * (n + 1))
            self.assert_refused(n, [1] + [0] * n)

    def test_empty_and_longest(self):
        self.assert_refused(3, [])
        self.assert_refused(3, [0] * 255)
        self.assert_refused(5, [1] * 5 + [0] * 250)
        self.assert_refused(5, [GREATEST] * 255)

    def test_together(self):
        for n in range(1, 6):
            self.assert_refused(n, [0] * n)
            self.assert_refused(n, [11] + [0] * (n - 1))
            self.assert_refused(n, [0] * (n - 1) + [GREATEST])
            for some in (1, 10):
                self.assertEqual(after(n, [(1, 1, 0)], fits([some] + [0] * (n - 1))), [[1]])
                self.assertEqual(after(n, [(1, 1, 0)], wrong([0] * (n - 1) + [some])), [[0]])
        self.assert_refused(2, [5, 6])
        self.assertEqual(after(2, [], fits([5, 5]), wrong([5, 5])), [[1], [0]])


class FitsAndWrongTest(unittest.TestCase):
    TOLD = [(0, 1, 2), (1, 2, 4), (2, 3, 4), (0, 7, 7)]

    def test_more_no_less_as_much(self):
        for x, answer in (([2, 1], [1, 1, 0]), ([1, 1], [0, 1, 1]), ([1, 2], [0, 0, 0])):
            self.assertEqual([after(2, [(k, 1, 2)], fits(x))[0][0] for k in range(3)], answer)
            self.assertEqual([after(2, [(k, 1, 2)], wrong(x))[0] for k in range(3)],
                             [[0] if one else [1, 0] for one in answer])

    def test_nothing_told(self):
        self.assertEqual(after(3, [], fits([0, 0, 1]), wrong([0, 0, 1])), [[1], [0]])

    def test_wrong_ones_rise(self):
        self.assertEqual(after(3, self.TOLD, wrong([2, 1, 3]), wrong([1, 1, 2]), wrong([0, 0, 1]), wrong([3, 2, 1])),
                         [[2, 1, 3], [3, 0, 1, 3], [4, 0, 1, 2, 3], [2, 2, 3]])

    def test_six_wrong(self):
        self.assertEqual(after(2, [(0, 2, 1)] * 6, wrong([1, 0]), fits([1, 0]), wrong([0, 1]), fits([0, 1])),
                         [[6, 0, 1, 2, 3, 4, 5], [0], [0], [1]])

    def test_multiplied_alike(self):
        source = random.Random(3)
        for turn in range(60):
            n = source.randrange(1, 6)
            told = told_at_hand(source, n, 6)
            x = [source.randrange(2) for world in range(n - 1)] + [1]
            double = [2 * some for some in x]
            answered = after(n, told, fits(x), fits(double), wrong(x), wrong(double))
            self.assertEqual(answered[0], answered[1])
            self.assertEqual(answered[2], answered[3])

    def test_as_the_model_says(self):
        source = random.Random(4)
        for turn in range(100):
            n = source.randrange(1, 6)
            told = told_at_hand(source, n, 6)
            x = [source.randrange(3) for world in range(n - 1)] + [source.randrange(1, 3)]
            expected = [number for number, one in enumerate(told) if not model_agrees(x, one)]
            self.assertEqual(after(n, told, fits(x), wrong(x)),
                             [[int(model_fits(x, told))], [len(expected)] + expected])


class AllSharesTest(unittest.TestCase):
    def test_likelier_no_less_nothing(self):
        self.assertEqual(after(2, [(0, 1, 2)], all_shares(1, 2), all_shares(1, 0), all_shares(2, 0), all_shares(2, 1)),
                         [[2], [2], [1], [0]])
        self.assertEqual(after(2, [(2, 1, 2)], all_shares(1, 2), all_shares(2, 1), all_shares(2, 0)), [[1], [1], [2]])

    def test_nothing_told(self):
        self.assertEqual(after(2, [], all_shares(3, 0), all_shares(3, 1), all_shares(0, 0), all_shares(1, 2)),
                         [[2], [1], [1], [0]])

    def test_wrong_sets(self):
        for n in range(1, 6):
            self.assertEqual(after(n, [], all_shares(2 ** n, 0), all_shares(0, 2 ** n), all_shares(GREATEST, 0),
                                   all_shares(2 ** n - 1, 0)), [[-22], [-22], [-22], [2]])

    def test_wrong_sets_come_ahead_of_no_shares(self):
        self.assertEqual(after(2, [(0, 1, 1)], all_shares(4, 0), all_shares(0, 4), all_shares(3, 0)),
                         [[-22], [-22], [-33]])

    def test_more_than_the_rules(self):
        self.assertEqual(after(5, FIVE_WORLDS, all_shares(*FIVE_WORLDS_SUM)), [[2]])

    def test_as_the_model_says(self):
        source = random.Random(5)
        for n in (1, 2, 2, 3, 3, 3):
            told = told_at_hand(source, n, 3)
            fitting = model_fitting(n, told)
            for pair, level in asked_of_pairs(all_shares, n, told).items():
                self.assertEqual(level, model_all(*pair, fitting) if fitting else -33, (n, told, pair))


if __name__ == "__main__":
    unittest.main()
