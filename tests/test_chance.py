"""Point 2: chance, given."""

import itertools
import random
import unittest

from tests.helper import (
    FIVE_WORLDS, FIVE_WORLDS_SUM, GREATEST, after, all_shares, chance, given, model_chance, model_fitting, model_given,
    tell, told_at_hand, told_by_shares, untell)

NONE_FIT = [(0, 0, 0)]
FOUR_ALIKE = [(2, 1, 2), (2, 2, 4), (2, 4, 8)]


class ChanceTest(unittest.TestCase):
    def test_empty_and_all(self):
        for n in range(1, 6):
            for told in ([], [(0, 1, 0)], [(1, 1, 0), (2, 2 ** n - 1, 1)]):
                self.assertEqual(after(n, told, chance(0), chance(2 ** n - 1)), [[0, 0, 1, 0, 1], [0, 1, 1, 1, 1]])

    def test_nothing_told(self):
        for n in range(2, 6):
            for a in range(1, 2 ** n - 1):
                self.assertEqual(after(n, [], chance(a)), [[0, 0, 1, 1, 1]])

    def test_least_and_greatest_differ(self):
        self.assertEqual(after(2, [(0, 1, 2)], chance(1), chance(2)), [[0, 5, 9, 1, 1], [0, 0, 1, 4, 9]])
        self.assertEqual(after(2, [(1, 1, 2)], chance(1), chance(2)), [[0, 1, 2, 1, 1], [0, 0, 1, 1, 2]])

    def test_neither_is_that_of_the_plainest(self):
        # 1 out of 3 by the plainest; the most shares are neither the least nor the greatest chance.
        self.assertEqual(after(2, [(0, 1, 2), (0, 2, 0)], chance(2), chance(1)), [[0, 1, 10, 4, 9], [0, 5, 9, 9, 10]])

    def test_least_and_greatest_are_the_same(self):
        self.assertEqual(after(2, [(2, 1, 2)], chance(1)), [[0, 1, 2, 1, 2]])
        self.assertEqual(after(3, [(2, 1, 2), (2, 2, 4)], chance(1), chance(5)), [[0, 1, 3, 1, 3], [0, 2, 3, 2, 3]])

    def test_without_a_common_divisor(self):
        # The plainest shares are 1, 1, 1, 1: half of them is 2 by 4.
        self.assertEqual(after(4, FOUR_ALIKE, chance(3), chance(7), chance(8), chance(15)),
                         [[0, 1, 2, 1, 2], [0, 3, 4, 3, 4], [0, 1, 4, 1, 4], [0, 1, 1, 1, 1]])
        # Shares 3, 2, 2, 2 alone: 6 by 9.
        told = [(0, 1, 2), (2, 2, 4), (2, 4, 8), (0, 6, 1)]
        self.assertEqual(after(4, told, chance(14), chance(1), chance(2)),
                         [[0, 2, 3, 2, 3], [0, 1, 3, 1, 3], [0, 2, 9, 2, 9]])
        self.assertEqual(after(3, [(2, 1, 6), (2, 2, 4)], chance(1), chance(2)), [[0, 1, 2, 1, 2], [0, 1, 4, 1, 4]])

    def test_a_world_as_likely_as_none(self):
        self.assertEqual(after(3, [(2, 2, 0)], chance(2), chance(5), chance(1)),
                         [[0, 0, 1, 0, 1], [0, 1, 1, 1, 1], [0, 0, 1, 1, 1]])

    def test_wrong_sets(self):
        for n in range(1, 6):
            self.assertEqual(after(n, [], chance(2 ** n), chance(GREATEST), chance(2 ** n - 1)),
                             [[-22], [-22], [0, 1, 1, 1, 1]])

    def test_none_fit(self):
        self.assertEqual(after(2, NONE_FIT, chance(0), chance(3), chance(1)), [[-33], [-33], [-33]])

    def test_wrong_sets_come_ahead_of_no_shares(self):
        self.assertEqual(after(2, NONE_FIT, chance(4), chance(GREATEST)), [[-22], [-22]])

    def test_told_and_untold_between(self):
        self.assertEqual(after(2, [], chance(1), tell(1, 2, 1), chance(1), tell(2, 1, 2), chance(1), untell(0),
                               chance(1), untell(0), chance(1)),
                         [[0, 0, 1, 1, 1], [0], [0, 0, 1, 1, 2], [1], [0, 1, 2, 1, 2], [1], [0, 1, 2, 1, 2], [0],
                          [0, 0, 1, 1, 1]])

    def test_opposites_make_up_one(self):
        source = random.Random(21)
        for n in (2, 3, 4):
            told = told_by_shares(source, [source.randrange(4) for world in range(n - 1)] + [2], 3)
            for a in range(2 ** n):
                one, other = after(n, told, chance(a), chance(2 ** n - 1 - a))
                self.assertEqual(one[1:], [other[4] - other[3], other[4], other[2] - other[1], other[2]])

    def test_as_the_model_says(self):
        source = random.Random(22)
        some = 0
        for n in (1, 2, 2, 3, 3, 3, 4, 4, 4, 5, 5):
            told = told_at_hand(source, n, 3)
            fitting = model_fitting(n, told)
            some += fitting != []
            for a in source.sample(range(2 ** n), min(2 ** n, 8)):
                self.assertEqual(after(n, told, chance(a)), [model_chance(a, fitting) if fitting else [-33]])
        self.assertGreater(some, 5)

    def test_six_told_as_the_model_says(self):
        source = random.Random(23)
        for x in ([1, 2, 3], [3, 1, 1, 2], [1, 2, 2, 3, 2]):
            told = told_by_shares(source, x, 6)
            fitting = model_fitting(len(x), told)
            for a in source.sample(range(2 ** len(x)), 6):
                self.assertEqual(after(len(x), told, chance(a)), [model_chance(a, fitting)])


class GivenTest(unittest.TestCase):
    # World 0 is likelier than world 1; of world 2 nothing is told.
    TOLD = [(0, 1, 2)]

    def test_likelier_no_less_nothing(self):
        self.assertEqual(after(3, self.TOLD, given(1, 2, 3), given(2, 0, 3), given(2, 1, 3), given(1, 1, 3)),
                         [[2], [1], [0], [1]])

    def test_worlds_outside(self):
        # World 2 is in none but in the question: by all shares nothing is told then.
        self.assertEqual(after(3, self.TOLD, all_shares(1, 6), given(1, 6, 3), all_shares(5, 2), given(5, 2, 3)),
                         [[0], [2], [2], [2]])
        self.assertEqual(after(3, self.TOLD, given(5, 6, 3), given(6, 5, 3), given(4, 0, 3), given(4, 2, 3),
                               all_shares(4, 0)), [[2], [0], [1], [0], [1]])

    def test_a_likelier_world_outside(self):
        # World 2 is the likeliest, but outside it counts for neither set.
        told = [(0, 4, 1), (0, 1, 2)]
        self.assertEqual(after(3, told, all_shares(4, 1), given(4, 1, 3), given(6, 1, 3), given(4, 1, 5)),
                         [[2], [0], [0], [2]])
        self.assertEqual(after(3, told, all_shares(1, 4), given(1, 4, 3), given(1, 6, 3), given(1, 4, 5)),
                         [[0], [2], [2], [0]])

    def test_within_neither(self):
        self.assertEqual(after(3, self.TOLD, given(4, 2, 1), given(2, 4, 1), given(0, 6, 1), given(4, 4, 3)),
                         [[1], [1], [1], [1]])

    def test_within_one_alone(self):
        self.assertEqual(after(3, self.TOLD, given(1, 2, 1), given(2, 1, 1), given(7, 6, 1), given(6, 7, 1)),
                         [[2], [0], [2], [0]])

    def test_all_worlds(self):
        for n in range(1, 6):
            every = 2 ** n - 1
            self.assertEqual(after(n, [], given(every, 0, every), given(0, every, every), given(1, 0, every)),
                             [[2], [0], [2 if n == 1 else 1]])
        for a, b in itertools.product(range(8), repeat=2):
            answered = after(3, self.TOLD, given(a, b, 7), all_shares(a, b))
            self.assertEqual(answered[0], answered[1])

    def test_may_have_no_share(self):
        self.assertEqual(after(3, self.TOLD, given(1, 2, 4), given(1, 2, 2), given(1, 2, 6), given(0, 0, 2)),
                         [[-62], [-62], [-62], [-62]])
        self.assertEqual(after(3, self.TOLD, given(1, 2, 1), given(1, 2, 5)), [[2], [2]])

    def test_empty_has_no_share(self):
        for n in range(1, 6):
            self.assertEqual(after(n, [], given(0, 0, 0), given(2 ** n - 1, 1, 0)), [[-62], [-62]])
        self.assertEqual(after(2, [(0, 1, 0), (0, 2, 0)], given(1, 2, 0), given(1, 0, 1)), [[-62], [2]])

    def test_no_less_likely_may_have_no_share(self):
        self.assertEqual(after(2, [(1, 1, 2)], given(1, 2, 1), given(1, 2, 2)), [[2], [-62]])
        self.assertEqual(after(2, [(2, 2, 0)], given(1, 2, 2), given(1, 2, 1)), [[-62], [2]])

    def test_wrong_sets(self):
        for n in range(1, 6):
            every = 2 ** n - 1
            for wrong in (every + 1, GREATEST):
                self.assertEqual(after(n, [], given(wrong, 0, every), given(0, wrong, every), given(0, 0, wrong),
                                       given(every, every, every)), [[-22], [-22], [-22], [1]])

    def test_which_refusal_comes_first(self):
        self.assertEqual(after(2, NONE_FIT, given(4, 0, 0), given(0, 4, 0), given(0, 0, 4), given(0, 0, 0),
                               given(1, 2, 3)), [[-22], [-22], [-22], [-33], [-33]])
        self.assertEqual(after(2, [], given(4, 0, 0), given(0, 4, 0), given(0, 0, 4), given(0, 0, 0)),
                         [[-22], [-22], [-22], [-62]])

    def test_told_and_untold_between(self):
        self.assertEqual(after(2, [], given(1, 0, 1), tell(0, 1, 0), given(1, 0, 1), untell(0), given(1, 0, 1)),
                         [[-62], [0], [2], [0], [-62]])

    def test_more_than_the_rules(self):
        self.assertEqual(after(5, FIVE_WORLDS, given(*FIVE_WORLDS_SUM, 31)), [[2]])

    def test_as_the_model_says(self):
        source = random.Random(24)
        answered = []
        for turn in range(60):
            n = source.randrange(1, 6)
            told = told_at_hand(source, n, 3)
            fitting = model_fitting(n, told)
            for asked in range(4):
                a, b, c = [source.randrange(2 ** n) for chosen in range(3)]
                expected = model_given(a, b, c, fitting) if fitting else -33
                self.assertEqual(after(n, told, given(a, b, c)), [[expected]], (n, told, a, b, c))
                answered.append(expected)
        self.assertEqual(set(answered), {-62, -33, 0, 1, 2})


if __name__ == "__main__":
    unittest.main()
