"""The calls on prices: best_prices, check_prices and duality_gap."""

import itertools
import unittest

from tests.helper import (
    GREATEST,
    LEAST,
    NO_BEST_PLAN,
    OUT_OF_RANGE,
    CallTest,
    answer_after,
    ask_each,
    best_by_trying,
    best_prices,
    best_prices_by_trying,
    bound_by_words,
    check_plan,
    check_prices,
    create,
    duality_gap,
    feasible_by_words,
    make_shots,
    many_shops,
    min_shots,
    remove_mould,
    set_demand,
    set_mould,
    setting,
    with_value,
)

MOULDS = [[2, 1, 0], [0, 1, 3]]
DEMAND = [5, 4, 6]
BEFORE = setting(MOULDS, DEMAND)
OUT_OF_REACH = setting(MOULDS, [40, 40, 40])
LEVELS = range(1, 7)
BAD_LEVELS = [-1, 0, 7, 8, 999, LEAST, GREATEST]
BAD_LEVELS_TO_CHECK = [-1, 0, 1000, 1001, LEAST, GREATEST]
BAD_PRICES = [-1, 1000, LEAST, GREATEST]
SHOPS = many_shops(240)


def prices_by_words(moulds, demand, level, prices):
    feasible = feasible_by_words(moulds, level, prices)
    return [1 if feasible else 0, bound_by_words(demand, level, prices)]


class BestPricesTest(CallTest):
    def test_ordinary_shops(self):
        self.assertEqual(answer_after(BEFORE, best_prices(2)), [4, 0, 2, 0])
        self.assertEqual(answer_after(setting([[2, 0, 0]], [7, 0, 0]), best_prices(2)), [4, 1, 0, 0])
        self.assertEqual(answer_after(setting([[2, 0, 0]], [7, 0, 0]), best_prices(1)), [0, 0, 0, 0])

    def test_the_first_of_several_with_the_greatest_bound(self):
        same = setting([[1, 1, 1]], [4, 4, 4])
        self.assertEqual(answer_after(same, best_prices(1)), [4, 0, 0, 1])
        self.assertEqual(answer_after(same, best_prices(6)), [4, 0, 0, 5])
        self.assertEqual(answer_after(setting([[1, 1, 0]], [3, 3, 0]), best_prices(1)), [3, 0, 1, 0])
        self.assertEqual(answer_after(setting([[0, 0, 0]], [1, 0, 0]), best_prices(3)), [1, 1, 0, 0])

    def test_a_feasible_sum_may_be_just_the_level(self):
        self.assertEqual(answer_after(setting([[6, 0, 0]], [40, 0, 0]), best_prices(6)), [7, 1, 0, 0])
        self.assertEqual(answer_after(setting([[6, 0, 0]], [40, 0, 0]), best_prices(5)), [0, 0, 0, 0])

    def test_every_mould_limits_the_prices(self):
        for moulds in itertools.permutations([[0, 0, 0], [0, 0, 0], [0, 0, 0], [3, 0, 0]]):
            before = setting(moulds, [10, 0, 0])
            self.assertEqual(answer_after(before, best_prices(2)), [0, 0, 0, 0])
            self.assertEqual(answer_after(before, best_prices(3)), [4, 1, 0, 0])

    def test_without_moulds(self):
        for level in LEVELS:
            before = setting([], [1, 0, 2])
            self.assertEqual(answer_after(before, best_prices(level)), [3, 1, 0, level])
            self.assertEqual(
                answer_after(setting([], [40, 40, 40]), best_prices(level)), [120, level, level, level]
            )

    def test_without_demand(self):
        for level in LEVELS:
            for count in range(5):
                before = setting([[1, 0, 2]] * count, [0, 0, 0])
                self.assertEqual(answer_after(before, best_prices(level)), [0, 0, 0, 0])
            self.assertEqual(answer_after([create()], best_prices(level)), [0, 0, 0, 0])

    def test_it_needs_no_best_plan(self):
        self.assertEqual(answer_after(OUT_OF_REACH, min_shots()), NO_BEST_PLAN)
        for level in LEVELS:
            self.assertEqual(
                answer_after(OUT_OF_REACH, best_prices(level)),
                best_prices_by_trying(MOULDS, [40, 40, 40], level),
            )

    def test_the_same_as_by_trying_all_prices(self):
        for moulds, demand in SHOPS:
            self.assertEqual(
                ask_each(setting(moulds, demand), [best_prices(level) for level in LEVELS]),
                [best_prices_by_trying(moulds, demand, level) for level in LEVELS],
                (moulds, demand),
            )

    def test_feasible_and_no_others_have_a_greater_bound(self):
        for moulds, demand in SHOPS[:60]:
            before = setting(moulds, demand)
            for level in [1, 2, 5]:
                best = answer_after(before, best_prices(level))
                self.assertEqual(answer_after(before, check_prices(level, best[1:])), [1, best[0]])
                self.assertLessEqual(max(best[1:]), level)
                others = itertools.product(range(level + 1), repeat=3)
                for feasible, bound in ask_each(before, [check_prices(level, other) for other in others]):
                    self.assertTrue(feasible == 0 or bound <= best[0], (moulds, demand, level))

    def test_level_out_of_range(self):
        for before in [BEFORE, OUT_OF_REACH, [create()]]:
            for level in BAD_LEVELS:
                self.assert_nothing_changes(before, best_prices(level), OUT_OF_RANGE)

    def test_it_changes_nothing(self):
        for level in LEVELS:
            self.assert_nothing_changes(BEFORE, best_prices(level), best_prices_by_trying(MOULDS, DEMAND, level))

    def test_it_follows_every_change(self):
        for change, moulds, demand in [
            (set_demand(1, 0), MOULDS, [5, 0, 6]),
            (set_mould(0, 3, 0, 1), [[3, 0, 1], [0, 1, 3]], DEMAND),
            (make_shots(1, 2), MOULDS, [5, 2, 0]),
            (remove_mould(1), MOULDS[:1], DEMAND),
        ]:
            for level in LEVELS:
                self.assertEqual(
                    answer_after(BEFORE + [change], best_prices(level)),
                    best_prices_by_trying(moulds, demand, level),
                )


class CheckPricesTest(CallTest):
    def test_ordinary_prices(self):
        self.assertEqual(answer_after(BEFORE, check_prices(6, [3, 0, 2])), [1, 5])
        self.assertEqual(answer_after(BEFORE, check_prices(5, [3, 0, 2])), [0, 6])
        self.assertEqual(answer_after(BEFORE, check_prices(7, [0, 0, 0])), [1, 0])

    def test_a_sum_of_just_the_level_is_feasible(self):
        before = setting([[6, 6, 6], [1, 0, 2]], [40, 39, 38])
        self.assertEqual(answer_after(before, check_prices(18, [1, 1, 1])), [1, 7])
        self.assertEqual(answer_after(before, check_prices(17, [1, 1, 1])), [0, 7])

    def test_every_mould_is_looked_at(self):
        for moulds in itertools.permutations([[0, 0, 0], [1, 0, 0], [0, 1, 0], [2, 2, 0]]):
            before = setting(moulds, [9, 0, 0])
            self.assertEqual(answer_after(before, check_prices(3, [1, 1, 9])), [0, 3])
            self.assertEqual(answer_after(before, check_prices(4, [1, 1, 9])), [1, 3])

    def test_the_bound_is_rounded_up(self):
        before = setting([[1, 1, 1]], [10, 0, 0])
        for level, bound in [(1, 10), (2, 5), (3, 4), (4, 3), (5, 2), (6, 2), (9, 2), (10, 1), (11, 1), (999, 1)]:
            self.assertEqual(answer_after(before, check_prices(level, [1, 0, 0])), [1, bound])

    def test_prices_may_be_above_the_level(self):
        self.assertEqual(answer_after(setting([[0, 1, 1]], [3, 0, 0]), check_prices(2, [5, 1, 1])), [1, 8])
        self.assertEqual(answer_after(setting([[1, 0, 0]], [3, 0, 0]), check_prices(2, [5, 1, 1])), [0, 8])

    def test_without_moulds_all_prices_are_feasible(self):
        before = setting([], [40, 40, 40])
        self.assertEqual(answer_after(before, check_prices(1, [999, 999, 999])), [1, 119880])
        self.assertEqual(answer_after(before, check_prices(999, [999, 999, 999])), [1, 120])
        self.assertEqual(answer_after([create()], check_prices(1, [999, 999, 999])), [1, 0])

    def test_it_needs_no_best_plan(self):
        self.assertEqual(answer_after(OUT_OF_REACH, check_prices(3, [1, 1, 0])), [1, 27])
        self.assertEqual(answer_after(OUT_OF_REACH, check_prices(2, [1, 1, 0])), [0, 40])

    def test_by_words_on_many_shops(self):
        lists = list(itertools.product([0, 1, 3, 10, 999], repeat=3))[::4]
        for moulds, demand in SHOPS[:80]:
            for level in [1, 4, 25, 999]:
                self.assertEqual(
                    ask_each(setting(moulds, demand), [check_prices(level, prices) for prices in lists]),
                    [prices_by_words(moulds, demand, level, prices) for prices in lists],
                    (moulds, demand, level),
                )

    def test_ends_of_the_ranges(self):
        for level in [1, 999]:
            for place in range(3):
                for price in [0, 999]:
                    prices = with_value([2, 2, 2], place, price)
                    self.assert_nothing_changes(
                        BEFORE, check_prices(level, prices), prices_by_words(MOULDS, DEMAND, level, prices)
                    )

    def test_level_out_of_range(self):
        for level in BAD_LEVELS_TO_CHECK:
            self.assert_nothing_changes(BEFORE, check_prices(level, [1, 1, 1]), OUT_OF_RANGE)

    def test_each_price_out_of_range(self):
        for place in range(3):
            for bad in BAD_PRICES:
                prices = with_value([1, 1, 1], place, bad)
                self.assert_nothing_changes(BEFORE, check_prices(5, prices), OUT_OF_RANGE)

    def test_other_lengths(self):
        for length in [0, 1, 2, 4, 70]:
            self.assert_nothing_changes(BEFORE, check_prices(5, [0] * length), OUT_OF_RANGE)
            self.assert_nothing_changes([create()], check_prices(5, [1] * length), OUT_OF_RANGE)

    def test_everything_out_of_range_at_once(self):
        for length in [0, 2, 4, 70]:
            self.assert_nothing_changes(BEFORE, check_prices(0, [1000] * length), OUT_OF_RANGE)


class DualityGapTest(CallTest):
    def test_ordinary_shops(self):
        self.assertEqual(answer_after(BEFORE, duality_gap(2)), [1])
        two = setting([[2, 0, 0], [0, 2, 0]], [1, 1, 0])
        self.assertEqual(answer_after(two, duality_gap(1)), [2])
        self.assertEqual(answer_after(two, duality_gap(2)), [1])

    def test_no_gap(self):
        for level in LEVELS:
            self.assertEqual(answer_after(setting([[1, 1, 1]], [20, 20, 20]), duality_gap(level)), [0])

    def test_without_demand(self):
        for level in LEVELS:
            self.assertEqual(answer_after([create()], duality_gap(level)), [0])
            self.assertEqual(answer_after(setting(MOULDS, [0, 0, 0]), duality_gap(level)), [0])

    def test_the_total_less_the_bound_on_many_shops(self):
        for moulds, demand in SHOPS:
            plan = best_by_trying(moulds, demand)
            wanted = [
                NO_BEST_PLAN if plan is None else [sum(plan) - best_prices_by_trying(moulds, demand, level)[0]]
                for level in LEVELS
            ]
            self.assertEqual(
                ask_each(setting(moulds, demand), [duality_gap(level) for level in LEVELS]),
                wanted,
                (moulds, demand),
            )

    def test_level_out_of_range(self):
        for level in BAD_LEVELS:
            self.assert_nothing_changes(BEFORE, duality_gap(level), OUT_OF_RANGE)

    def test_no_best_plan(self):
        for level in LEVELS:
            self.assert_nothing_changes(OUT_OF_REACH, duality_gap(level), NO_BEST_PLAN)
            self.assert_nothing_changes(setting([], [0, 0, 1]), duality_gap(level), NO_BEST_PLAN)

    def test_20_shots_and_21(self):
        self.assertEqual(answer_after(setting([[1, 0, 0]], [20, 0, 0]), duality_gap(1)), [0])
        self.assertEqual(answer_after(setting([[1, 0, 0]], [21, 0, 0]), duality_gap(1)), NO_BEST_PLAN)

    def test_the_level_is_checked_ahead_of_the_plan(self):
        for level in BAD_LEVELS:
            self.assert_nothing_changes(OUT_OF_REACH, duality_gap(level), OUT_OF_RANGE)

    def test_it_changes_nothing(self):
        for level in LEVELS:
            bound = best_prices_by_trying(MOULDS, DEMAND, level)[0]
            self.assert_nothing_changes(BEFORE, duality_gap(level), [5 - bound])


class WeakDualityTest(unittest.TestCase):
    def test_no_sufficient_plan_has_a_total_below_a_feasible_bound(self):
        prices_lists = list(itertools.product([0, 1, 2, 5], repeat=3))
        for moulds, demand in SHOPS[:60]:
            before = setting(moulds, demand)
            plans = list(itertools.product([0, 1, 3, 8, 20], repeat=len(moulds)))[::2]
            checked = ask_each(before, [check_plan(plan) for plan in plans])
            totals = [answer[1] for answer in checked if answer[0] == 1]
            fewest = answer_after(before, min_shots())[0]
            if fewest >= 0:
                totals.append(fewest)
            for level in [1, 3, 8]:
                answers = ask_each(before, [check_prices(level, prices) for prices in prices_lists])
                bounds = [bound for feasible, bound in answers if feasible == 1]
                self.assertIn(0, bounds)
                if totals:
                    self.assertLessEqual(max(bounds), min(totals), (moulds, demand, level))


if __name__ == "__main__":
    unittest.main()
