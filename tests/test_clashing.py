"""Point 2: spare, clashes."""

import random
import unittest

from tests.helper import (
    CAN, CLASHES, FIVE_WORLDS, FIVE_WORLDS_SUM, SPARE, after, model_clashes, model_fitting, model_spare, settled, tell,
    told_at_hand, told_by_shares, untell)

CYCLE = [(0, 1, 2), (0, 2, 4), (0, 4, 1)]
# Shares 1, 2, 3, 4 alone: together just 10.
JUST_TEN = [(0, 1, 0), (0, 2, 1), (0, 4, 2), (0, 8, 4)]
# Shares 1, 2, 4, 8 at least: together 15; without any one of these 7 are enough.
DOUBLES = [(0, 1, 0), (0, 2, 1), (0, 4, 3), (0, 8, 7)]


class SpareTest(unittest.TestCase):
    def test_nothing_told(self):
        for n in range(1, 6):
            self.assertEqual(after(n, [], SPARE), [[0]])

    def test_none_is_spare(self):
        self.assertEqual(after(2, [(0, 1, 2)], SPARE), [[0]])
        self.assertEqual(after(3, CYCLE[:2], SPARE), [[0]])

    def test_told_twice(self):
        self.assertEqual(after(2, [(0, 1, 2), (0, 1, 2)], SPARE), [[2, 0, 1]])
        self.assertEqual(after(3, [(0, 1, 2), (0, 2, 4), (0, 1, 2)], SPARE), [[2, 0, 2]])
        self.assertEqual(after(2, [(2, 1, 2), (2, 2, 1)], SPARE), [[2, 0, 1]])

    def test_of_a_set_and_itself(self):
        for a in range(4):
            for k in (1, 2):
                self.assertEqual(after(2, [(0, 1, 2), (k, a, a)], SPARE), [[1, 1]])

    def test_what_always_holds(self):
        self.assertEqual(after(3, [(0, 7, 0), (1, 3, 1), (1, 1, 0), (0, 1, 2)], SPARE), [[3, 0, 1, 2]])

    def test_each_alone_but_not_together(self):
        three = [(2, 1, 2), (2, 2, 4), (2, 1, 4)]
        self.assertEqual(after(3, three, SPARE, untell(0), SPARE), [[3, 0, 1, 2], [2], [0]])

    def test_the_weaker_one_is_spare(self):
        self.assertEqual(after(2, [(0, 1, 2), (1, 1, 2)], SPARE), [[1, 1]])
        self.assertEqual(after(2, [(1, 1, 2), (2, 1, 2)], SPARE), [[1, 0]])
        self.assertEqual(after(2, [(1, 1, 2), (1, 2, 1), (2, 1, 2)], SPARE), [[3, 0, 1, 2]])

    def test_six_told(self):
        self.assertEqual(after(2, [(0, 1, 2)] * 6, SPARE), [[6, 0, 1, 2, 3, 4, 5]])
        self.assertEqual(after(2, [(0, 1, 2)] + [(1, 1, 2)] * 5, SPARE), [[5, 1, 2, 3, 4, 5]])
        self.assertEqual(after(2, [(1, 1, 2)] * 5 + [(0, 1, 2)], SPARE), [[5, 0, 1, 2, 3, 4]])

    def test_rules_need_not_tell_it(self):
        self.assertEqual(after(5, FIVE_WORLDS + [(0,) + FIVE_WORLDS_SUM], SPARE, settled(3)), [[1, 3], [0]])

    def test_shares_above_ten_do_not_count(self):
        self.assertEqual(after(4, JUST_TEN + [(2, 5, 8)], SPARE, settled(4)), [[3, 0, 3, 4], [0]])

    def test_none_fit(self):
        self.assertEqual(after(2, [(0, 1, 1)], SPARE), [[-33]])
        self.assertEqual(after(3, CYCLE, SPARE, untell(2), SPARE), [[-33], [2], [0]])
        self.assertEqual(after(4, DOUBLES, SPARE), [[-33]])

    def test_told_and_untold_between(self):
        self.assertEqual(after(3, [(0, 1, 4)], SPARE, tell(0, 1, 2), SPARE, tell(0, 2, 4), SPARE, untell(0), SPARE),
                         [[0], [1], [0], [2], [1, 0], [2], [0]])

    def test_as_the_model_says(self):
        source = random.Random(25)
        found = 0
        for turn in range(40):
            n = source.randrange(1, 5)
            told = told_by_shares(source, [source.randrange(3) for world in range(n - 1)] + [1], source.randrange(7))
            expected = model_spare(n, told)
            found += len(expected)
            self.assertEqual(after(n, told, SPARE), [[len(expected)] + expected], (n, told))
        self.assertGreater(found, 20)

    def test_five_worlds_as_the_model_says(self):
        source = random.Random(26)
        told = told_by_shares(source, [1, 2, 2, 3, 2], 6)
        expected = model_spare(5, told)
        self.assertEqual(after(5, told, SPARE), [[len(expected)] + expected], told)


class ClashesTest(unittest.TestCase):
    def test_some_fit(self):
        for n in range(1, 6):
            self.assertEqual(after(n, [], CLASHES), [[-33]])
        self.assertEqual(after(2, [(0, 1, 2)], CLASHES), [[-33]])
        self.assertEqual(after(3, CYCLE[:2], CLASHES), [[-33]])

    def test_of_one(self):
        for n in range(1, 6):
            for one in ((0, 1, 1), (0, 0, 0), (0, 0, 1), (2, 2 ** n - 1, 0), (1, 0, 2 ** n - 1)):
                self.assertEqual(after(n, [one], CLASHES), [[1, 1]])
        self.assertEqual(after(2, [(0, 1, 2), (1, 1, 2), (0, 1, 1)], CLASHES), [[1, 4]])
        self.assertEqual(after(2, [(1, 1, 2)] * 5 + [(0, 0, 0)], CLASHES), [[1, 32]])

    def test_of_two(self):
        for told in ([(0, 1, 2), (0, 2, 1)], [(0, 1, 2), (1, 2, 1)], [(0, 1, 2), (2, 2, 1)], [(2, 1, 0), (2, 2, 0)]):
            self.assertEqual(after(2, told, CLASHES), [[1, 3]])
        self.assertEqual(after(2, [(0, 1, 2), (1, 1, 0), (0, 2, 1)], CLASHES), [[1, 5]])

    def test_of_more(self):
        self.assertEqual(after(3, CYCLE, CLASHES), [[1, 7]])
        self.assertEqual(after(4, [(0, 1, 2), (0, 2, 4), (1, 4, 8), (1, 8, 1)], CLASHES), [[1, 15]])
        self.assertEqual(after(5, [(1, 1, 1), (0, 1, 2), (0, 2, 4), (0, 4, 8), (0, 8, 16), (0, 16, 1)], CLASHES),
                         [[1, 62]])

    def test_of_which_the_rules_tell_nothing(self):
        less, more = FIVE_WORLDS_SUM
        self.assertEqual(after(5, FIVE_WORLDS + [(1, more, less)], CLASHES), [[1, 15]])

    def test_shares_above_ten_do_not_count(self):
        self.assertEqual(after(4, DOUBLES, CLASHES), [[1, 15]])
        self.assertEqual(after(5, [(0, 16, 0), (0, 8, 16), (0, 4, 8), (0, 2, 4), (0, 1, 2)], CLASHES), [[1, 31]])

    def test_several_with_one_in_common(self):
        self.assertEqual(after(2, [(0, 1, 2), (1, 2, 1), (2, 1, 2)], CLASHES), [[2, 3, 5]])
        self.assertEqual(after(2, [(0, 1, 2)] + [(0, 2, 1)] * 5, CLASHES), [[5, 3, 5, 9, 17, 33]])
        self.assertEqual(after(2, [(0, 2, 1)] * 5 + [(0, 1, 2)], CLASHES), [[5, 33, 34, 36, 40, 48]])

    def test_told_twice(self):
        self.assertEqual(after(2, [(0, 1, 2), (0, 2, 1), (0, 1, 2), (0, 2, 1)], CLASHES), [[4, 3, 6, 9, 12]])
        self.assertEqual(after(2, [(0, 1, 1), (0, 1, 1)], CLASHES), [[2, 1, 2]])

    def test_nothing_that_could_be_left_out(self):
        self.assertEqual(after(2, [(0, 1, 2), (0, 2, 1), (0, 1, 1)], CLASHES), [[2, 3, 4]])
        self.assertEqual(after(3, [(1, 7, 0)] + CYCLE, CLASHES), [[1, 14]])

    def test_rising_whatever_their_size(self):
        self.assertEqual(after(3, CYCLE + [(0, 2, 1)], CLASHES), [[2, 7, 9]])
        self.assertEqual(after(3, [(0, 4, 4), (0, 2, 1)] + CYCLE, CLASHES), [[3, 1, 6, 28]])

    def test_six_told_all_wrong(self):
        self.assertEqual(after(1, [(0, 0, 1)] * 6, CLASHES), [[6, 1, 2, 4, 8, 16, 32]])

    def test_told_and_untold_between(self):
        self.assertEqual(after(2, [(0, 1, 2)], CLASHES, tell(0, 2, 1), CLASHES, tell(0, 3, 3), CLASHES, untell(0),
                               CLASHES, untell(1), CLASHES),
                         [[-33], [1], [1, 3], [2], [2, 3, 4], [2], [1, 2], [1], [-33]])

    def test_either_spare_or_clashes(self):
        source = random.Random(27)
        for turn in range(40):
            n = source.randrange(1, 5)
            can, spare, clashes = after(n, told_at_hand(source, n, 5), CAN, SPARE, CLASHES)
            self.assertEqual((spare == [-33], clashes == [-33]), (can == [0], can == [1]))
            if can == [0]:
                self.assertGreater(clashes[0], 0)
                self.assertEqual(clashes[0], len(clashes) - 1)

    def test_as_the_model_says(self):
        source = random.Random(28)
        found = []
        while len(found) < 40:
            n = source.randrange(1, 4)
            told = told_at_hand(source, n, 6)
            if not model_fitting(n, told):
                expected = model_clashes(n, told)
                found.append(len(expected))
                self.assertEqual(after(n, told, CLASHES), [[len(expected)] + expected], (n, told))
        self.assertGreater(max(found), 3)


if __name__ == "__main__":
    unittest.main()
