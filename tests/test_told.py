"""Point 1: begin, tell, untell."""

import unittest

from tests.helper import (
    CAN, GREATEST, PLAINEST, WAYS, after, all_shares, begin, fits, last, rules, said, tell, untell, wrong)

SIX = [(0, 1, 0), (0, 2, 0), (1, 1, 2), (1, 2, 1), (2, 1, 2), (2, 3, 3)]


class BeginTest(unittest.TestCase):
    def test_edges_of_n(self):
        for n, answer in ((0, -22), (1, 0), (2, 0), (3, 0), (4, 0), (5, 0), (6, -22), (GREATEST, -22)):
            self.assertEqual(said(begin(n)), [[answer]], n)

    def test_n_worlds_are_there(self):
        for n, ways in ((1, 10), (2, 65), (3, 285), (4, 1000), (5, 3002)):
            self.assertEqual(said(begin(n), WAYS), [[0], [ways]])

    def test_begin_again_forgets(self):
        answered = said(begin(2), tell(0, 1, 2), WAYS, begin(2), WAYS, untell(0), rules(1, 2), tell(0, 2, 1))
        self.assertEqual(answered, [[0], [0], [30], [0], [65], [-2], [0], [0]])

    def test_begin_again_with_other_worlds(self):
        self.assertEqual(said(begin(5), rules(31, 0), begin(1), rules(2, 0), WAYS, begin(3), rules(4, 0), WAYS),
                         [[0], [2], [0], [-22], [10], [0], [1], [285]])

    def test_refused_begin_keeps_what_was_there(self):
        for n in (0, 6, GREATEST):
            answered = said(begin(2), tell(0, 1, 2), begin(n), WAYS, rules(1, 2), wrong([0, 1]), rules(4, 0))
            self.assertEqual(answered, [[0], [0], [-22], [30], [2], [1, 0], [-22]])


class TellTest(unittest.TestCase):
    def test_its_number(self):
        self.assertEqual(after(2, SIX), [])
        self.assertEqual(said(begin(2), *[tell(*one) for one in SIX])[1:], [[0], [1], [2], [3], [4], [5]])

    def test_seventh(self):
        self.assertEqual(after(2, SIX, tell(0, 1, 0), tell(0, 1, 0)), [[-28], [-28]])
        self.assertEqual(after(2, SIX, untell(3), tell(0, 1, 0), tell(0, 1, 0)), [[5], [5], [-28]])

    def test_wrong_comes_ahead_of_too_many(self):
        for call in (tell(3, 1, 0), tell(0, 4, 0), tell(0, 0, 4), tell(GREATEST, GREATEST, GREATEST)):
            self.assertEqual(after(2, SIX, call), [[-22]])

    def test_edges_of_k(self):
        for k, answer in ((0, 0), (1, 0), (2, 0), (3, -22), (4, -22), (GREATEST, -22)):
            self.assertEqual(after(2, [], tell(k, 1, 0)), [[answer]], k)

    def test_edges_of_sets(self):
        for n in range(1, 6):
            most = 2 ** n - 1
            self.assertEqual(after(n, [], tell(1, most, most)), [[0]])
            self.assertEqual(after(n, [], tell(1, most + 1, 0)), [[-22]])
            self.assertEqual(after(n, [], tell(1, 0, most + 1)), [[-22]])
            self.assertEqual(after(n, [], tell(1, GREATEST, 0), tell(1, 0, GREATEST)), [[-22], [-22]])

    def test_refused_is_not_told(self):
        self.assertEqual(after(2, [], tell(3, 1, 2), tell(0, 4, 1), WAYS, tell(0, 1, 2)), [[-22], [-22], [65], [0]])

    def test_each_kind(self):
        for k, ways, plainest in ((0, 30, [1, 1, 0]), (1, 35, [1, 1, 0]), (2, 5, [2, 1, 1])):
            self.assertEqual(after(2, [(k, 1, 2)], WAYS, PLAINEST), [[ways], plainest])


class UntellTest(unittest.TestCase):
    TOLD = [(0, 1, 0), (0, 2, 0), (0, 1, 2)]

    def test_how_many_are_left(self):
        self.assertEqual(after(2, self.TOLD, untell(0), untell(0), untell(0)), [[2], [1], [0]])

    def test_first(self):
        self.assertEqual(after(2, self.TOLD, wrong([0, 1]), untell(0), wrong([0, 1])), [[2, 0, 2], [2], [1, 1]])

    def test_middle(self):
        self.assertEqual(after(2, self.TOLD, wrong([0, 1]), untell(1), wrong([0, 1])), [[2, 0, 2], [2], [2, 0, 1]])

    def test_last(self):
        self.assertEqual(after(2, self.TOLD, untell(2), wrong([0, 1]), fits([1, 1])), [[2], [1, 0], [1]])

    def test_none_such(self):
        self.assertEqual(after(2, self.TOLD, untell(3), untell(GREATEST), wrong([0, 1])), [[-2], [-2], [2, 0, 2]])
        self.assertEqual(after(2, self.TOLD, untell(2), untell(2)), [[2], [-2]])
        self.assertEqual(after(1, [], untell(0)), [[-2]])

    def test_next_number_behind_it(self):
        self.assertEqual(after(2, self.TOLD, untell(0), tell(2, 1, 1), tell(2, 2, 2)), [[2], [2], [3]])

    def test_no_more_by_shares_or_rules(self):
        answered = after(2, [(0, 1, 2), (0, 2, 1)], CAN, untell(0), CAN, rules(1, 2), all_shares(2, 1), untell(0), WAYS)
        self.assertEqual(answered, [[0], [1], [1], [0], [2], [0], [65]])

    def test_all_six_go_and_come_again(self):
        self.assertEqual(after(2, SIX, *[untell(0)] * 6, WAYS), [[5], [4], [3], [2], [1], [0], [65]])
        self.assertEqual(last(begin(2), *[tell(1, 1, 2)] * 6, *[untell(0)] * 6, *[tell(1, 1, 2)] * 6), [5])


if __name__ == "__main__":
    unittest.main()
