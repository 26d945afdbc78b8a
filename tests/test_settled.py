"""Point 3: settled, look, state."""

import random
import unittest

from tests.helper import (
    FIVE_WORLDS, FIVE_WORLDS_SUM, GREATEST, STATE, WAYS, after, begin, look, model_settled, rules, said, settled, tell,
    told_at_hand, untell)

SIX = [(0, 1, 0), (1, 2, 0), (2, 1, 3), (0, 3, 1), (1, 2, 2), (2, 3, 0)]


class SettledTest(unittest.TestCase):
    def each(self, n, told):
        return [answer[0] for answer in after(n, told, *[settled(t) for t in range(len(told))])]

    def test_likelier(self):
        self.assertEqual(self.each(3, [(0, 1, 2), (0, 2, 4), (0, 1, 4)]), [0, 0, 1])
        self.assertEqual(self.each(3, [(1, 1, 2), (0, 2, 4), (0, 1, 4)]), [0, 0, 1])
        self.assertEqual(self.each(3, [(1, 1, 2), (1, 2, 4), (0, 1, 4)]), [0, 0, 0])

    def test_no_less_likely(self):
        self.assertEqual(self.each(3, [(1, 1, 2), (1, 2, 4), (1, 1, 4)]), [0, 0, 1])
        self.assertEqual(self.each(3, [(1, 1, 2), (0, 2, 4), (1, 1, 4)]), [0, 0, 1])
        self.assertEqual(self.each(3, [(1, 1, 2), (1, 2, 4), (1, 4, 1)]), [0, 0, 0])

    def test_as_likely(self):
        self.assertEqual(self.each(3, [(2, 1, 2), (2, 2, 4), (2, 4, 1)]), [1, 1, 1])
        self.assertEqual(self.each(2, [(1, 1, 2), (1, 2, 1), (2, 1, 2)]), [1, 1, 1])
        self.assertEqual(self.each(2, [(1, 1, 2), (1, 2, 1)]), [0, 0])
        self.assertEqual(self.each(2, [(1, 1, 2), (2, 1, 2)]), [1, 0])
        self.assertEqual(self.each(2, [(1, 2, 1), (2, 1, 2)]), [1, 0])

    def test_as_likely_where_one_is_likelier(self):
        self.assertEqual(self.each(2, [(0, 1, 2), (2, 1, 2)]), [0, 0])
        self.assertEqual(self.each(2, [(0, 1, 2), (1, 2, 1), (2, 1, 2)]), [0, 1, 1])

    def test_what_always_holds(self):
        for n in range(1, 6):
            every = 2 ** n - 1
            self.assertEqual(self.each(n, [(0, every, 0), (1, every, 1), (1, 1, 0), (1, 1, 1), (2, 1, 1)]), [1] * 5)
        self.assertEqual(self.each(2, [(0, 3, 1)]), [0])
        self.assertEqual(self.each(2, [(2, 3, 1)]), [0])

    def test_of_a_set_and_itself(self):
        for a in range(4):
            self.assertEqual([self.each(2, [(k, a, a)]) for k in range(3)], [[0], [1], [1]])

    def test_told_twice(self):
        for k in range(3):
            self.assertEqual(after(2, [(k, 1, 2), (k, 1, 2)], settled(0), settled(1), untell(0), settled(0)),
                             [[1], [1], [1], [0]])

    def test_worlds_in_common(self):
        self.assertEqual(self.each(3, [(0, 1, 2), (0, 5, 6)]), [1, 1])
        self.assertEqual(self.each(3, [(0, 1, 6), (0, 3, 4)]), [0, 1])

    def test_where_a_set_is_likelier_than_itself(self):
        self.assertEqual(self.each(2, [(0, 1, 1), (0, 2, 2)]), [1, 1])
        self.assertEqual(self.each(3, [(0, 1, 2), (0, 2, 4), (0, 4, 1)]), [0, 0, 0])

    def test_all_shares_are_not_enough(self):
        self.assertEqual(self.each(5, FIVE_WORLDS + [(0,) + FIVE_WORLDS_SUM])[3], 0)

    def test_six_told(self):
        self.assertEqual(self.each(2, [(0, 1, 2)] * 6), [1] * 6)
        self.assertEqual(self.each(2, [(1, 1, 2)] * 5 + [(0, 1, 2)]), [1, 1, 1, 1, 1, 0])

    def test_none_such(self):
        self.assertEqual(after(2, [], settled(0), settled(GREATEST)), [[-2], [-2]])
        self.assertEqual(after(2, SIX, settled(5), settled(6), settled(GREATEST)), [[0], [-2], [-2]])
        self.assertEqual(after(2, SIX[:3], settled(2), settled(3)), [[0], [-2]])

    def test_nothing_changes(self):
        told = [(0, 1, 2), (0, 2, 4), (0, 1, 4)]
        looks = [STATE, look(0), look(1), look(2), WAYS, rules(1, 4), settled(2)]
        before = after(3, told, *looks)
        for t in range(4):
            self.assertEqual(after(3, told, settled(t), *looks)[1:], before)

    def test_told_and_untold_between(self):
        self.assertEqual(after(3, [(0, 1, 4)], settled(0), tell(0, 1, 2), tell(1, 2, 4), settled(0), untell(1),
                               settled(0)), [[0], [1], [2], [1], [2], [0]])

    def test_as_the_model_says(self):
        source = random.Random(32)
        found = []
        for turn in range(40):
            n = source.randrange(1, 4)
            told = told_at_hand(source, n, 6)
            expected = [model_settled(n, told, t) for t in range(len(told))]
            found += expected
            self.assertEqual(self.each(n, told), expected, (n, told))
        self.assertEqual(set(found), {0, 1})


class LookTest(unittest.TestCase):
    def test_kind_and_sets(self):
        self.assertEqual(after(2, SIX, *[look(t) for t in range(6)]), [list(one) for one in SIX])
        self.assertEqual(after(5, [(2, 31, 0), (1, 16, 17)], look(1), look(0)), [[1, 16, 17], [2, 31, 0]])

    def test_behind_one_that_went(self):
        self.assertEqual(after(2, SIX[:3], untell(0), look(0), look(1), look(2)),
                         [[2], list(SIX[1]), list(SIX[2]), [-2]])
        self.assertEqual(after(2, SIX[:3], untell(1), look(0), look(1)), [[2], list(SIX[0]), list(SIX[2])])

    def test_none_such(self):
        self.assertEqual(after(1, [], look(0), look(GREATEST)), [[-2], [-2]])
        self.assertEqual(after(2, SIX, look(5), look(6), look(GREATEST)), [[2, 3, 0], [-2], [-2]])

    def test_refused_is_not_told(self):
        self.assertEqual(after(2, SIX[:1], tell(3, 1, 2), tell(0, 4, 0), look(1), look(0)),
                         [[-22], [-22], [-2], [0, 1, 0]])
        self.assertEqual(after(2, SIX, tell(0, 1, 1), look(5)), [[-28], [2, 3, 0]])


class StateTest(unittest.TestCase):
    def test_worlds_and_told(self):
        for n in range(1, 6):
            for many in range(7):
                self.assertEqual(after(n, [(1, 1, 0)] * many, STATE), [[n, many]])

    def test_told_and_untold_between(self):
        self.assertEqual(after(2, [], STATE, tell(0, 1, 2), STATE, tell(0, 1, 2), STATE, untell(0), STATE),
                         [[2, 0], [0], [2, 1], [1], [2, 2], [1], [2, 1]])

    def test_begin_again(self):
        self.assertEqual(said(begin(5), tell(0, 16, 1), STATE, begin(2), STATE, look(0), begin(6), STATE),
                         [[0], [0], [5, 1], [0], [2, 0], [-2], [-22], [2, 0]])

    def test_refused_tells_change_nothing(self):
        self.assertEqual(after(2, SIX, tell(0, 1, 2), STATE, untell(6), STATE), [[-28], [2, 6], [-2], [2, 6]])


if __name__ == "__main__":
    unittest.main()
