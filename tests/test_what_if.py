"""min_shots_without, min_shots_if and min_shots_with_only, and describe."""

import unittest

from tests.helper import (
    GREATEST,
    LEAST,
    NO_BEST_PLAN,
    NO_SUCH_INDEX,
    OUT_OF_RANGE,
    CallTest,
    add_mould,
    answer_after,
    ask,
    ask_each,
    create,
    describe,
    make_shots,
    many_shops,
    min_shots,
    min_shots_if,
    min_shots_with_only,
    min_shots_without,
    remove_mould,
    set_all_demand,
    set_demand,
    set_mould,
    setting,
    total_by_trying,
    with_value,
)

MOULDS = [[2, 1, 0], [0, 1, 3], [1, 0, 1]]
DEMAND = [5, 4, 6]
BEFORE = setting(MOULDS, DEMAND)
BAD_INDEXES = [-1, -2, -3, -4, 3, 4, LEAST, GREATEST]
BAD_AMOUNTS = [-1, 41, LEAST, GREATEST]
SHOPS = many_shops(120)


class MinShotsWithoutTest(CallTest):
    def test_each_mould(self):
        before = setting([[6, 0, 0], [3, 0, 0], [0, 6, 0]], [12, 0, 0])
        self.assertEqual(answer_after(before, min_shots_without(0)), [4])
        self.assertEqual(answer_after(before, min_shots_without(1)), [2])
        self.assertEqual(answer_after(before, min_shots_without(2)), [2])

    def test_the_same_as_behind_remove_mould(self):
        for moulds, demand in SHOPS:
            before = setting(moulds, demand)
            for i in range(len(moulds)):
                answer = answer_after(before, min_shots_without(i))
                self.assertEqual(answer, answer_after(before + [remove_mould(i)], min_shots()))
                self.assertEqual(answer, total_by_trying(moulds[:i] + moulds[i + 1:], demand))

    def test_the_only_mould(self):
        self.assert_nothing_changes(setting([[1, 1, 1]], [0, 0, 0]), min_shots_without(0), [0])
        for demand in [[1, 0, 0], [0, 1, 0], [0, 0, 1]]:
            self.assert_nothing_changes(setting([[1, 1, 1]], demand), min_shots_without(0), NO_BEST_PLAN)

    def test_20_shots_and_21(self):
        moulds = [[6, 6, 6], [1, 0, 0]]
        self.assertEqual(answer_after(setting(moulds, [20, 0, 0]), min_shots_without(0)), [20])
        self.assertEqual(answer_after(setting(moulds, [21, 0, 0]), min_shots_without(0)), NO_BEST_PLAN)

    def test_no_such_mould(self):
        for i in BAD_INDEXES:
            self.assert_nothing_changes(BEFORE, min_shots_without(i), NO_SUCH_INDEX)
        self.assert_nothing_changes([create()], min_shots_without(0), NO_SUCH_INDEX)
        self.assert_nothing_changes(setting(MOULDS + [[1, 1, 1]], DEMAND), min_shots_without(4), NO_SUCH_INDEX)

    def test_the_index_is_checked_ahead_of_the_plan(self):
        before = setting([[0, 0, 0]], [1, 0, 0])
        for i in [-1, 1, 2, LEAST, GREATEST]:
            self.assert_nothing_changes(before, min_shots_without(i), NO_SUCH_INDEX)
        self.assert_nothing_changes(before, min_shots_without(0), NO_BEST_PLAN)

    def test_it_changes_nothing(self):
        for i, answer in [(0, [9]), (1, [10]), (2, [5])]:
            self.assert_nothing_changes(BEFORE, min_shots_without(i), answer)


class MinShotsIfTest(CallTest):
    def test_ordinary_amounts(self):
        self.assertEqual(answer_after(BEFORE, min_shots_if(0, 0)), [4])
        self.assertEqual(answer_after(BEFORE, min_shots_if(1, 40)), NO_BEST_PLAN)
        self.assertEqual(answer_after(BEFORE, min_shots_if(2, 6)), [5])

    def test_the_same_as_behind_set_demand(self):
        for moulds, demand in SHOPS:
            before = setting(moulds, demand)
            for j in range(3):
                for amount in [0, 1, 13, 40]:
                    answer = answer_after(before, min_shots_if(j, amount))
                    self.assertEqual(answer, answer_after(before + [set_demand(j, amount)], min_shots()))
                    self.assertEqual(answer, total_by_trying(moulds, with_value(demand, j, amount)))

    def test_ends_of_the_range(self):
        before = setting([[3, 3, 3]], [7, 7, 7])
        for j in range(3):
            self.assert_nothing_changes(before, min_shots_if(j, 0), [3])
            self.assert_nothing_changes(before, min_shots_if(j, 40), [14])

    def test_it_may_be_possible_though_min_shots_is_not(self):
        before = setting([[2, 0, 0]], [10, 1, 0])
        self.assertEqual(ask(*before, min_shots(), min_shots_if(1, 0), min_shots())[-3:], [[-33], [5], [-33]])

    def test_20_shots_and_21(self):
        before = setting([[2, 1, 0]], [0, 0, 0])
        self.assertEqual(answer_after(before, min_shots_if(0, 40)), [20])
        self.assertEqual(answer_after(before, min_shots_if(1, 20)), [20])
        self.assertEqual(answer_after(before, min_shots_if(1, 21)), NO_BEST_PLAN)

    def test_without_moulds(self):
        self.assert_nothing_changes([create()], min_shots_if(1, 0), [0])
        self.assert_nothing_changes([create()], min_shots_if(1, 1), NO_BEST_PLAN)
        self.assert_nothing_changes(setting([], [0, 1, 0]), min_shots_if(1, 0), [0])

    def test_no_such_part(self):
        for j in BAD_INDEXES:
            self.assert_nothing_changes(BEFORE, min_shots_if(j, 1), NO_SUCH_INDEX)
            self.assert_nothing_changes(setting(MOULDS + [[1, 1, 1]], DEMAND), min_shots_if(j, 1), NO_SUCH_INDEX)

    def test_amount_out_of_range(self):
        for j in range(3):
            for bad in BAD_AMOUNTS:
                self.assert_nothing_changes(BEFORE, min_shots_if(j, bad), OUT_OF_RANGE)

    def test_the_part_is_checked_ahead_of_the_amount(self):
        for j in BAD_INDEXES:
            for bad in BAD_AMOUNTS:
                self.assert_nothing_changes(BEFORE, min_shots_if(j, bad), NO_SUCH_INDEX)

    def test_both_are_checked_ahead_of_the_plan(self):
        before = setting([[0, 0, 0]], [1, 1, 1])
        for j in BAD_INDEXES:
            self.assert_nothing_changes(before, min_shots_if(j, 1), NO_SUCH_INDEX)
        for bad in BAD_AMOUNTS:
            self.assert_nothing_changes(before, min_shots_if(0, bad), OUT_OF_RANGE)
        self.assert_nothing_changes(before, min_shots_if(0, 0), NO_BEST_PLAN)


class MonotonicityTest(unittest.TestCase):
    def test_less_demand_never_needs_more_shots(self):
        for moulds, demand in SHOPS:
            for j in range(3):
                queries = [min_shots_if(j, amount) for amount in range(0, 41, 3)]
                totals = [
                    21 if answer == NO_BEST_PLAN else answer[0]
                    for answer in ask_each(setting(moulds, demand), queries)
                ]
                self.assertEqual(totals, sorted(totals), (moulds, demand, j))


class MinShotsWithOnlyTest(CallTest):
    def test_each_mould(self):
        before = setting([[1, 1, 1], [2, 0, 0], [0, 0, 0]], [8, 0, 0])
        self.assertEqual(answer_after(before, min_shots_with_only(0)), [8])
        self.assertEqual(answer_after(before, min_shots_with_only(1)), [4])
        self.assertEqual(answer_after(before, min_shots_with_only(2)), NO_BEST_PLAN)

    def test_the_same_as_with_that_mould_alone(self):
        for moulds, demand in SHOPS:
            for i, mould in enumerate(moulds):
                answer = answer_after(setting(moulds, demand), min_shots_with_only(i))
                self.assertEqual(answer, answer_after(setting([mould], demand), min_shots()))
                self.assertEqual(answer, total_by_trying([mould], demand))

    def test_without_demand_no_shot_is_needed(self):
        self.assert_nothing_changes(setting([[0, 0, 0], [1, 1, 1]], [0, 0, 0]), min_shots_with_only(0), [0])

    def test_20_shots_and_21(self):
        moulds = [[1, 0, 0], [6, 6, 6]]
        self.assertEqual(answer_after(setting(moulds, [20, 0, 0]), min_shots_with_only(0)), [20])
        self.assertEqual(answer_after(setting(moulds, [21, 0, 0]), min_shots_with_only(0)), NO_BEST_PLAN)
        self.assertEqual(answer_after(setting(moulds, [21, 0, 0]), min_shots_with_only(1)), [4])

    def test_no_such_mould(self):
        for i in BAD_INDEXES:
            self.assert_nothing_changes(BEFORE, min_shots_with_only(i), NO_SUCH_INDEX)
        self.assert_nothing_changes([create()], min_shots_with_only(0), NO_SUCH_INDEX)
        self.assert_nothing_changes(setting(MOULDS + [[1, 1, 1]], DEMAND), min_shots_with_only(4), NO_SUCH_INDEX)

    def test_the_index_is_checked_ahead_of_the_plan(self):
        before = setting([[0, 0, 0]], [1, 0, 0])
        for i in [-1, 1, 2, LEAST, GREATEST]:
            self.assert_nothing_changes(before, min_shots_with_only(i), NO_SUCH_INDEX)
        self.assert_nothing_changes(before, min_shots_with_only(0), NO_BEST_PLAN)

    def test_it_changes_nothing(self):
        before = setting([[2, 1, 3], [1, 1, 1]], [5, 4, 6])
        for i, answer in [(0, [4]), (1, [6])]:
            self.assert_nothing_changes(before, min_shots_with_only(i), answer)


class DescribeTest(CallTest):
    def test_a_new_instance(self):
        self.assertEqual(answer_after([create()], describe()), [0, 0, 0, 0])

    def test_moulds_in_their_order_then_the_demand(self):
        self.assertEqual(
            answer_after(BEFORE, describe()),
            [3, 2, 1, 0, 0, 1, 3, 1, 0, 1, 5, 4, 6],
        )
        for moulds, demand in SHOPS:
            wanted = [len(moulds)] + [count for mould in moulds for count in mould] + demand
            self.assertEqual(answer_after(setting(moulds, demand), describe()), wanted)

    def test_it_follows_every_change(self):
        for change, wanted in [
            (add_mould(6, 0, 6), [4, 2, 1, 0, 0, 1, 3, 1, 0, 1, 6, 0, 6, 5, 4, 6]),
            (remove_mould(1), [2, 2, 1, 0, 1, 0, 1, 5, 4, 6]),
            (set_mould(1, 6, 6, 6), [3, 2, 1, 0, 6, 6, 6, 1, 0, 1, 5, 4, 6]),
            (set_demand(1, 40), [3, 2, 1, 0, 0, 1, 3, 1, 0, 1, 5, 40, 6]),
            (set_all_demand([0, 40, 1]), [3, 2, 1, 0, 0, 1, 3, 1, 0, 1, 0, 40, 1]),
            (make_shots(1, 2), [3, 2, 1, 0, 0, 1, 3, 1, 0, 1, 5, 2, 0]),
            (create(), [0, 0, 0, 0]),
        ]:
            self.assertEqual(answer_after(BEFORE + [change], describe()), wanted, change)

    def test_it_changes_nothing(self):
        self.assert_nothing_changes(BEFORE, describe(), [3, 2, 1, 0, 0, 1, 3, 1, 0, 1, 5, 4, 6])
        self.assert_nothing_changes([create()], describe(), [0, 0, 0, 0])


if __name__ == "__main__":
    unittest.main()
