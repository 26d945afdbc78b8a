"""The interface: a line of calls, its beginning, the form of its answers."""

import unittest

from likeliersets.shares import answers
from tests.helper import (
    ALIKE, BEYOND, BROKEN, CAN, CLASHES, FIVE_WORLDS, GREATEST, PLAINEST, SPARE, STATE, WAYS, WHOLE, after, all_shares,
    begin, chance, fits, given, look, rules, said, settled, tell, untell, wrong)

OTHER_CALLS = [
    tell(0, 1, 0), untell(0), CAN, WAYS, PLAINEST, fits([1]), wrong([1]), rules(1, 0), all_shares(1, 0), BROKEN,
    BEYOND, WHOLE, chance(0), given(1, 0, 1), ALIKE, CLASHES, SPARE, settled(0), look(0), STATE]

WRONG_CALLS = [
    tell(3, GREATEST, 0), untell(GREATEST), fits([]), fits([0] * 255), wrong([GREATEST]), rules(GREATEST, 0),
    all_shares(0, GREATEST), chance(GREATEST), given(GREATEST, 0, 0), given(0, GREATEST, 0), given(0, 0, GREATEST),
    settled(GREATEST), look(GREATEST)]


class FormTest(unittest.TestCase):
    def test_empty_list(self):
        self.assertEqual(answers([]), [])

    def test_counts_and_answers_stand_number_by_number(self):
        calls = begin(2) + tell(0, 1, 2) + PLAINEST + wrong([0, 3]) + wrong([3, 0]) + WAYS + rules(4, 0)
        self.assertEqual(answers(calls), [1, 0, 1, 0, 3, 1, 1, 0, 2, 1, 0, 1, 0, 1, 30, 1, -22])

    def test_rows_are_gone_past(self):
        for count in (0, 1, 2, 3, 255):
            for call in (fits, wrong):
                answered = said(begin(2), call([1] * count), WAYS, call([3] * count), CAN)
                self.assertEqual([answered[2], answered[4]], [[65], [1]])
                if count != 2:
                    self.assertEqual([answered[1], answered[3]], [[-22], [-22]])

    def test_a_row_may_look_like_calls(self):
        self.assertEqual(said(begin(2), fits([0, 5]), wrong([2, 0]), WAYS), [[0], [1], [0], [65]])

    def test_longest_list(self):
        row = [10] * 255
        self.assertEqual(said(*[wrong(row)] * 20), [[-11]] * 20)
        self.assertEqual(said(begin(5), *[fits(row)] * 18, WAYS), [[0]] + [[-22]] * 18 + [[3002]])

    def test_counts_and_answers_of_the_longer_ones(self):
        calls = begin(2) + tell(2, 1, 2) + BEYOND + WHOLE + chance(1) + given(1, 0, 3) + ALIKE + CLASHES
        self.assertEqual(answers(calls), [1, 0, 1, 0, 3, 2, 1, 0, 1, 1, 5, 0, 1, 2, 1, 2, 1, 2, 3, 1, 1, 2, 1, -33])
        calls = begin(2) + tell(0, 1, 1) + tell(0, 1, 1) + CLASHES + SPARE + settled(1) + look(1) + STATE + chance(4)
        self.assertEqual(answers(calls), [1, 0, 1, 0, 1, 1, 3, 2, 1, 2, 1, -33, 1, 1, 3, 0, 1, 1, 2, 2, 2, 1, -22])

    def test_every_call_in_one_list(self):
        calls = [begin(3), tell(0, 1, 2), tell(1, 2, 4), WAYS, PLAINEST, fits([3, 2, 1]), wrong([1, 2, 3]), rules(1, 4),
                 all_shares(4, 1), BROKEN, BEYOND, WHOLE, chance(1), given(2, 4, 3), ALIKE, CLASHES, SPARE, settled(1),
                 look(1), STATE]
        self.assertEqual(said(*calls),
                         [[0], [0], [1], [53], [1, 1, 0, 0], [1], [2, 0, 1], [2], [0], [0], [0], [0], [0, 2, 5, 1, 1],
                          [1], [0], [-33], [0], [0], [1, 2, 4], [3, 2]])

    def test_a_begin_between_them(self):
        answered = said(begin(2), tell(2, 1, 2), ALIKE, chance(1), SPARE, STATE, begin(3), ALIKE, chance(1), SPARE,
                        STATE, look(0), tell(0, 4, 4), CLASHES, settled(0), begin(1), CLASHES, settled(0), WHOLE, WAYS)
        self.assertEqual(answered,
                         [[0], [0], [1, 1, 2], [0, 1, 2, 1, 2], [0], [2, 1], [0], [0], [0, 0, 1, 1, 1], [0], [3, 0],
                          [-2], [0], [1, 1], [0], [0], [-33], [-2], [1], [10]])

    def test_twenty_calls_that_take_long(self):
        for call, answer in ((BEYOND, [0]), (WHOLE, [0]), (chance(21), [0, 0, 1, 1, 1]), (SPARE, [0]), (ALIKE, [0])):
            self.assertEqual(said(begin(5), *[call] * 19), [[0]] + [answer] * 19)

    def test_list_stays_as_it_was(self):
        calls = begin(3) + tell(0, 1, 2) + wrong([0, 1, 1]) + fits([1, 0, 0]) + untell(0) + PLAINEST
        calls = calls + tell(2, 1, 2) + BEYOND + chance(3) + given(1, 2, 7) + ALIKE + settled(0) + SPARE + look(0)
        calls = calls + tell(0, 4, 4) + CLASHES + WHOLE + STATE
        before = list(calls)
        answers(calls)
        self.assertEqual(calls, before)

    def test_second_time_is_like_the_first(self):
        calls = begin(3) + tell(0, 1, 2) + WAYS + rules(1, 2) + SPARE + ALIKE + BEYOND + look(0) + chance(1) + STATE
        first = answers(calls)
        first_copy = list(first)
        self.assertEqual(answers(CAN), [1, -11])
        self.assertEqual(answers(calls), first_copy)
        first.append(0)
        self.assertEqual(answers(calls), first_copy)

    def test_whole_numbers_alone(self):
        some = begin(3) + fits([1, 0, 0]) + fits([0, 1, 0]) + wrong([0, 0, 1]) + PLAINEST
        told = begin(3) + tell(0, 3, 4) + tell(0, 5, 2) + tell(2, 4, 2) + tell(2, 4, 2)
        wrong_ones = begin(3) + tell(0, 1, 1) + tell(0, 1, 1) + CLASHES + settled(0)
        for calls in (some, told + BEYOND + ALIKE + SPARE + settled(3) + chance(1) + look(1), wrong_ones,
                      begin(1) + WHOLE + STATE + given(1, 0, 1), *[begin(1) + call for call in OTHER_CALLS]):
            answered = answers(calls)
            self.assertIs(type(answered), list)
            self.assertEqual({type(number) for number in answered}, {int})


class BeforeBeginTest(unittest.TestCase):
    def test_every_other_call(self):
        for call in OTHER_CALLS + WRONG_CALLS:
            self.assertEqual(said(call), [[-11]], call)

    def test_several_before_a_begin(self):
        self.assertEqual(said(*OTHER_CALLS), [[-11]] * 20)
        self.assertEqual(said(*OTHER_CALLS[:18], begin(2), WAYS), [[-11]] * 18 + [[0], [65]])
        self.assertEqual(said(*OTHER_CALLS[2:], begin(2), STATE), [[-11]] * 18 + [[0], [2, 0]])

    def test_behind_a_refused_begin(self):
        for n in (0, 6, GREATEST):
            for call in OTHER_CALLS + WRONG_CALLS:
                self.assertEqual(said(begin(n), call), [[-22], [-11]], call)

    def test_nothing_is_told_before_a_begin(self):
        self.assertEqual(said(tell(0, 1, 0), begin(1), untell(0), look(0), STATE, tell(0, 1, 0)),
                         [[-11], [0], [-2], [-2], [1, 0], [0]])


class RefusalTest(unittest.TestCase):
    """A refusal is its number alone, and nothing changes behind it."""

    LOOKS = [WAYS, PLAINEST, wrong([0, 0, 3]), rules(1, 2), all_shares(1, 2), BROKEN, STATE, look(0), look(1),
             chance(1), SPARE, ALIKE]

    def test_nothing_changes(self):
        told = [(0, 1, 2), (1, 6, 1)]
        refused = [begin(0), begin(6), tell(3, 0, 0), tell(0, 8, 0), tell(0, 0, 8), untell(2), fits([0, 0, 0]),
                   wrong([1, 1]), rules(8, 0), all_shares(0, 8), chance(8), given(8, 0, 7), given(0, 8, 7),
                   given(0, 0, 8), given(1, 2, 0), given(1, 4, 2), CLASHES, settled(2), look(2), settled(GREATEST),
                   look(GREATEST)]
        before = after(3, told, *self.LOOKS)
        for call in refused:
            answered = after(3, told, call, *self.LOOKS)
            self.assertEqual(len(answered[0]), 1, call)
            self.assertLess(answered[0][0], 0, call)
            self.assertEqual(answered[1:], before, call)

    def test_nothing_changes_where_six_are_told(self):
        told = [(0, 1, 0), (0, 2, 1), (0, 4, 2), (1, 7, 0), (1, 4, 1), (2, 3, 3)]
        before = after(3, told, *self.LOOKS)
        self.assertEqual(after(3, told, tell(0, 1, 4), *self.LOOKS), [[-28]] + before)

    def test_nothing_changes_where_no_shares_fit(self):
        told = FIVE_WORLDS + [(1, 13, 18)]
        looks = [CAN, WAYS, rules(13, 18), wrong([0, 2, 0, 1, 2]), CLASHES, STATE, look(3), tell(0, 1, 0)]
        before = after(5, told, *looks)
        self.assertEqual(before, [[0], [0], [1], [1, 3], [1, 15], [5, 4], [1, 13, 18], [4]])
        refused = [PLAINEST, all_shares(1, 0), chance(1), given(1, 2, 31), given(1, 2, 0), SPARE, BEYOND]
        self.assertEqual(after(5, told, *refused, *looks), [[-33]] * 7 + before)


if __name__ == "__main__":
    unittest.main()
