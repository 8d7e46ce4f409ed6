"""check_plan: whether a plan is sufficient, its total, and what it produces."""

import itertools
import unittest

from tests.helper import (
    GREATEST,
    LEAST,
    OUT_OF_RANGE,
    CallTest,
    answer_after,
    ask_each,
    best_plan,
    check_plan,
    create,
    make_shots,
    many_shops,
    parts_made,
    remove_mould,
    set_demand,
    set_mould,
    setting,
    with_value,
)

MOULDS = [[2, 1, 0], [0, 1, 3], [1, 0, 6]]
DEMAND = [5, 4, 6]
BEFORE = setting(MOULDS, DEMAND)
BAD_SHOTS = [-1, 100, LEAST, GREATEST]


def answer_by_words(moulds, demand, plan):
    parts = parts_made(moulds, plan)
    sufficient = all(made >= wanted for made, wanted in zip(parts, demand))
    return [1 if sufficient else 0, sum(plan)] + parts


class AnswerTest(unittest.TestCase):
    def test_sufficient_and_not(self):
        before = setting([[2, 1, 0], [0, 1, 3]], [5, 4, 6])
        self.assertEqual(answer_after(before, check_plan([3, 1])), [0, 4, 6, 4, 3])
        self.assertEqual(answer_after(before, check_plan([3, 2])), [1, 5, 6, 5, 6])
        self.assertEqual(answer_after(before, check_plan([2, 3])), [0, 5, 4, 5, 9])
        self.assertEqual(answer_after(before, check_plan([0, 0])), [0, 0, 0, 0, 0])

    def test_just_the_demand_is_sufficient_and_one_part_less_is_not(self):
        for demand in [[12, 5, 11], [1, 40, 40], [0, 0, 1]]:
            moulds = [demand[:1] + [0, 0], [0] + demand[1:2] + [0], [0, 0] + demand[2:]]
            moulds = [[min(count, 1) for count in mould] for mould in moulds]
            before = setting(moulds, demand)
            self.assertEqual(answer_after(before, check_plan(demand)), [1, sum(demand)] + demand)
            for j in range(3):
                if demand[j] > 0:
                    less = with_value(demand, j, demand[j] - 1)
                    self.assertEqual(answer_after(before, check_plan(less)), [0, sum(less)] + less)

    def test_without_demand_every_plan_is_sufficient(self):
        before = setting(MOULDS, [0, 0, 0])
        for plan in [[0, 0, 0], [1, 0, 0], [99, 99, 99]]:
            self.assertEqual(answer_after(before, check_plan(plan))[:2], [1, sum(plan)])

    def test_without_moulds(self):
        self.assertEqual(answer_after([create()], check_plan([])), [1, 0, 0, 0, 0])
        for demand in [[1, 0, 0], [0, 1, 0], [0, 0, 1]]:
            self.assertEqual(answer_after(setting([], demand), check_plan([])), [0, 0, 0, 0, 0])

    def test_more_than_20_shots_may_be_sufficient(self):
        before = setting([[1, 0, 2]], [40, 0, 0])
        self.assertEqual(answer_after(before, check_plan([39])), [0, 39, 39, 0, 78])
        self.assertEqual(answer_after(before, check_plan([40])), [1, 40, 40, 0, 80])
        self.assertEqual(answer_after(before, check_plan([99])), [1, 99, 99, 0, 198])

    def test_the_greatest_plan(self):
        before = setting([[6, 6, 6]] * 4, [40, 40, 40])
        self.assertEqual(answer_after(before, check_plan([99] * 4)), [1, 396, 2376, 2376, 2376])

    def test_by_words_on_many_shops(self):
        for moulds, demand in many_shops(100):
            plans = list(itertools.product([0, 1, 2, 5, 13], repeat=len(moulds)))[::3]
            queries = [check_plan(plan) for plan in plans]
            wanted = [answer_by_words(moulds, demand, plan) for plan in plans]
            self.assertEqual(ask_each(setting(moulds, demand), queries), wanted, (moulds, demand))

    def test_the_best_plan_is_sufficient(self):
        found = 0
        for moulds, demand in many_shops(200):
            before = setting(moulds, demand)
            plan = answer_after(before, best_plan())
            if plan[0] >= 0:
                found += 1
                self.assertEqual(answer_after(before, check_plan(plan[1:]))[:2], [1, plan[0]])
        self.assertGreater(found, 50)

    def test_it_follows_every_change(self):
        before = setting([[2, 1, 0], [0, 1, 3]], [5, 4, 6])
        for change, plan, answer in [
            (set_demand(2, 3), [3, 1], [1, 4, 6, 4, 3]),
            (set_mould(1, 0, 1, 6), [3, 1], [1, 4, 6, 4, 6]),
            (make_shots(1, 1), [3, 1], [1, 4, 6, 4, 3]),
            (remove_mould(0), [9], [0, 9, 0, 9, 27]),
        ]:
            self.assertEqual(answer_after(before + [change], check_plan(plan)), answer, change)


class RangeTest(CallTest):
    def test_ends_of_the_range(self):
        for place in range(3):
            for shots in [0, 99]:
                plan = with_value([1, 2, 3], place, shots)
                self.assert_nothing_changes(BEFORE, check_plan(plan), answer_by_words(MOULDS, DEMAND, plan))

    def test_each_number_of_shots_out_of_range(self):
        for place in range(3):
            for bad in BAD_SHOTS:
                plan = with_value([1, 2, 3], place, bad)
                self.assert_nothing_changes(BEFORE, check_plan(plan), OUT_OF_RANGE)

    def test_other_lengths(self):
        for length in [0, 1, 2, 4, 70]:
            self.assert_nothing_changes(BEFORE, check_plan([1] * length), OUT_OF_RANGE)
            self.assert_nothing_changes(BEFORE, check_plan([0] * length), OUT_OF_RANGE)

    def test_other_lengths_with_shots_out_of_range(self):
        for length in [1, 2, 4, 70]:
            self.assert_nothing_changes(BEFORE, check_plan([100] * length), OUT_OF_RANGE)

    def test_the_length_is_the_number_of_moulds(self):
        for count in range(5):
            before = setting([[1, 1, 1]] * count, [0, 0, 0])
            for length in range(6):
                answer = [1, length, length, length, length] if length == count else OUT_OF_RANGE
                self.assert_nothing_changes(before, check_plan([1] * length), answer)

    def test_without_moulds_only_the_empty_plan_fits(self):
        for plan in [[0], [0, 0, 0], [1] * 70]:
            self.assert_nothing_changes([create()], check_plan(plan), OUT_OF_RANGE)


if __name__ == "__main__":
    unittest.main()
