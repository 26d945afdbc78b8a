"""The corners that the document names."""

import unittest

from tests.helper import (
    ALIKE, BEYOND, BROKEN, CAN, CLASHES, FIVE_WORLDS, FIVE_WORLDS_SUM, PLAINEST, SPARE, STATE, WAYS, WHOLE, after,
    all_shares, chance, fits, given, look, rules, settled, tell, untell, wrong)


class CornersTest(unittest.TestCase):
    def test_one_world(self):
        self.assertEqual(after(1, [], CAN, WAYS, PLAINEST, fits([1]), fits([10]), wrong([3]), BROKEN),
                         [[1], [10], [1, 1], [1], [1], [0], [0]])
        for call in (rules, all_shares):
            self.assertEqual(after(1, [], call(1, 0), call(0, 1), call(0, 0), call(1, 1)), [[2], [0], [1], [1]])
        self.assertEqual(after(1, [(0, 1, 0)], WAYS, BROKEN), [[10], [0]])
        self.assertEqual(after(1, [(1, 0, 1)], WAYS, BROKEN), [[0], [1]])
        self.assertEqual(after(1, [], BEYOND, WHOLE, chance(0), chance(1), given(1, 0, 1), given(0, 0, 0), ALIKE,
                               CLASHES, SPARE, settled(0), look(0), STATE),
                         [[0], [1], [0, 0, 1, 0, 1], [0, 1, 1, 1, 1], [2], [-62], [0], [-33], [0], [-2], [-2], [1, 0]])
        self.assertEqual(after(1, [(0, 1, 0)], SPARE, settled(0), look(0), STATE, BEYOND),
                         [[1, 0], [1], [0, 1, 0], [1, 1], [0]])

    def test_nothing_told(self):
        for call in (rules, all_shares):
            self.assertEqual(after(5, [], call(31, 0), call(15, 0), call(3, 1), call(1, 3), call(1, 2), call(4, 4)),
                             [[2], [1], [1], [0], [0], [1]])
        self.assertEqual(after(5, [], BEYOND, WHOLE, chance(5), given(1, 2, 30), given(1, 2, 31), ALIKE, CLASHES, SPARE,
                               settled(0), look(0), STATE),
                         [[0], [0], [0, 0, 1, 1, 1], [-62], [0], [0], [-33], [0], [-2], [-2], [5, 0]])

    def test_a_set_told_of_itself(self):
        for chosen in range(4):
            self.assertEqual(after(2, [(0, chosen, chosen)], CAN, BROKEN, rules(chosen, chosen)), [[0], [1], [2]])
            for k in (1, 2):
                self.assertEqual(after(2, [(k, chosen, chosen)], WAYS, BROKEN, rules(chosen, chosen)), [[65], [0], [1]])
                self.assertEqual(after(2, [(k, chosen, chosen)], SPARE, settled(0), CLASHES, look(0), ALIKE, BEYOND),
                                 [[1, 0], [1], [-33], [k, chosen, chosen], [0], [0]])
            self.assertEqual(after(2, [(0, chosen, chosen)], SPARE, settled(0), CLASHES, look(0), BEYOND, chance(1)),
                             [[-33], [0], [1, 1], [0, chosen, chosen], [-33], [-33]])

    def test_sets_with_worlds_in_common(self):
        self.assertEqual(after(3, [(0, 3, 6)], rules(1, 4), rules(3, 6), all_shares(1, 4), fits([2, 5, 1]),
                               fits([1, 5, 1]), PLAINEST), [[2], [2], [2], [1], [0], [1, 1, 0, 0]])
        self.assertEqual(after(3, [(0, 3, 6), (0, 1, 4)], SPARE, settled(0), settled(1), look(0), given(3, 6, 5),
                               given(3, 6, 2), given(3, 6, 3)), [[2, 0, 1], [1], [1], [0, 3, 6], [2], [-62], [2]])
        self.assertEqual(after(3, [(2, 3, 6)], ALIKE, chance(3), chance(1)),
                         [[1, 1, 4], [0, 1, 2, 1, 1], [0, 0, 1, 1, 2]])
        self.assertEqual(after(3, [(0, 3, 6), (1, 6, 3), (1, 4, 1)], CLASHES), [[2, 3, 5]])

    def test_a_world_as_likely_as_none(self):
        self.assertEqual(after(2, [(2, 1, 0)], rules(0, 1), rules(1, 0), rules(2, 0), rules(2, 3), rules(2, 1), WAYS,
                               PLAINEST, BROKEN, all_shares(2, 1)),
                         [[1], [1], [2], [1], [2], [10], [1, 0, 1], [0], [2]])
        self.assertEqual(after(2, [(2, 1, 0)], chance(1), chance(2), given(1, 2, 1), given(2, 1, 2), ALIKE, WHOLE,
                               BEYOND, SPARE, settled(0)),
                         [[0, 0, 1, 0, 1], [0, 1, 1, 1, 1], [-62], [2], [1, 0, 1], [1], [0], [0], [0]])

    def test_all_as_likely_as_none(self):
        for n in range(1, 6):
            every = 2 ** n - 1
            for told in ([(2, every, 0)], [(2, 0, every)], [(1, 0, every)]):
                self.assertEqual(after(n, told, CAN, BROKEN, rules(0, 0), rules(0, 1), PLAINEST),
                                 [[0], [1], [2], [2], [-33]])
                self.assertEqual(after(n, told, chance(1), given(1, 0, every), SPARE, CLASHES, BEYOND, WHOLE, ALIKE),
                                 [[-33], [-33], [-33], [1, 1], [-33], [1], [0]])

    def test_every_world_as_likely_as_none(self):
        self.assertEqual(after(3, [(2, 1, 0), (2, 2, 0), (2, 0, 4)], CAN, BROKEN, CLASHES), [[0], [1], [1, 7]])

    def test_five_worlds_of_which_rules_tell_less(self):
        more, less = FIVE_WORLDS_SUM
        self.assertEqual(after(5, FIVE_WORLDS, rules(more, less), all_shares(more, less), BROKEN, CAN),
                         [[0], [2], [0], [1]])
        self.assertEqual(after(5, FIVE_WORLDS + [(0, less, more)], rules(less, more), all_shares(less, more), BROKEN),
                         [[2], [-33], [0]])
        self.assertEqual(after(5, FIVE_WORLDS, BEYOND, WHOLE, ALIKE, SPARE, CLASHES, given(more, less, 31)),
                         [[13, 2, 4], [0], [0], [0], [-33], [2]])
        self.assertEqual(after(5, FIVE_WORLDS + [(0, less, more)], BEYOND, WHOLE, ALIKE, SPARE, CLASHES, settled(3)),
                         [[-33], [0], [0], [-33], [1, 15], [0]])

    def test_shares_that_need_more_than_ten(self):
        told = [(0, 1, 0), (0, 2, 1), (0, 4, 3), (0, 8, 7)]
        self.assertEqual(after(4, told, CAN, WAYS, PLAINEST, all_shares(8, 4), BROKEN, rules(8, 4), rules(4, 8),
                               fits([1, 2, 4, 8]), wrong([1, 2, 3, 4])),
                         [[0], [0], [-33], [-33], [0], [2], [0], [-22], [2, 2, 3]])
        self.assertEqual(after(4, told, chance(8), given(8, 4, 15), SPARE, CLASHES, BEYOND, WHOLE, ALIKE, settled(3)),
                         [[-33], [-33], [-33], [1, 15], [-33], [1], [0], [0]])

    def test_told_twice(self):
        self.assertEqual(after(2, [(0, 1, 2)], tell(0, 1, 2), WAYS, wrong([1, 1]), untell(0), wrong([1, 1]), WAYS,
                               rules(1, 2), untell(0), WAYS),
                         [[1], [30], [2, 0, 1], [1], [1, 0], [30], [2], [0], [65]])
        self.assertEqual(after(2, [(0, 1, 2)] * 2, SPARE, settled(0), settled(1), look(0), look(1), STATE, untell(0),
                               SPARE, settled(0), tell(0, 2, 1), tell(0, 1, 2), CLASHES),
                         [[2, 0, 1], [1], [1], [0, 1, 2], [0, 1, 2], [2, 2], [1], [0], [0], [1], [2], [2, 3, 6]])

    def test_a_clash_of_two(self):
        for told in ([(0, 1, 2), (0, 2, 1)], [(0, 1, 2), (1, 2, 1)], [(0, 1, 2), (2, 2, 1)]):
            self.assertEqual(after(2, told, CAN, BROKEN, untell(0), CAN, BROKEN), [[0], [1], [1], [1], [0]])
            self.assertEqual(after(2, told, CAN, BROKEN, untell(1), CAN, BROKEN), [[0], [1], [1], [1], [0]])
            self.assertEqual(after(2, told, CLASHES, SPARE, ALIKE, WHOLE, BEYOND, untell(0), CLASHES),
                             [[1, 3], [-33], [0], [1], [-33], [1], [-33]])


if __name__ == "__main__":
    unittest.main()
