"""The calls that answer from the best plan: min_shots, best_plan and surplus."""

import itertools
import unittest

from tests.helper import (
    NO_BEST_PLAN,
    PLANS,
    add_mould,
    ask,
    best_by_trying,
    best_plan,
    create,
    min_shots,
    parts_made,
    remove_mould,
    set_all_demand,
    set_demand,
    set_mould,
    setting,
    state_after,
    surplus,
)

QUERIES = [min_shots(), best_plan(), surplus()]

MOULD_LISTS = [
    [[3, 2, 1]],
    [[0, 0, 0]],
    [[2, 1, 0], [0, 1, 3]],
    [[0, 1, 3], [2, 1, 0]],
    [[1, 1, 1], [1, 1, 1]],
    [[0, 0, 0], [6, 6, 6], [1, 0, 0]],
    [[1, 0, 0], [0, 1, 0], [0, 0, 1]],
    [[2, 2, 0], [0, 2, 2], [2, 0, 2]],
    [[5, 0, 1], [1, 4, 0], [0, 2, 6], [2, 2, 2]],
    [[3, 0, 0], [3, 0, 0], [0, 3, 0], [0, 0, 3]],
    [[1, 1, 4], [1, 0, 6], [1, 4, 6], [4, 1, 3]],
]
DEMANDS = [list(demand) for demand in itertools.product([0, 1, 7, 20, 33, 40], repeat=3)]


def answers_by_trying(moulds, demand):
    plan = best_by_trying(moulds, demand)
    if plan is None:
        return [NO_BEST_PLAN] * 3
    beyond = [made - wanted for made, wanted in zip(parts_made(moulds, plan), demand)]
    return [[sum(plan)], [sum(plan)] + plan, [sum(beyond)] + beyond]


def answers_for(moulds, demand):
    return ask(*setting(moulds, demand), *QUERIES)[-3:]


class EdgeTest(unittest.TestCase):
    def test_without_moulds_and_without_demand(self):
        self.assertEqual(ask(create(), *QUERIES), [[0], [0], [0], [0, 0, 0, 0]])

    def test_without_moulds_and_with_demand(self):
        for demand in [[1, 0, 0], [0, 1, 0], [0, 0, 1], [40, 40, 40]]:
            self.assertEqual(answers_for([], demand), [NO_BEST_PLAN] * 3)

    def test_without_demand(self):
        for count in range(1, 5):
            self.assertEqual(
                answers_for([[1, 2, 3]] * count, [0, 0, 0]),
                [[0], [0] + [0] * count, [0, 0, 0, 0]],
            )

    def test_a_total_of_just_20(self):
        self.assertEqual(answers_for([[1, 2, 0]], [20, 39, 0]), [[20], [20, 20], [1, 0, 1, 0]])
        self.assertEqual(answers_for([[0, 2, 0], [2, 0, 0]], [20, 20, 0]), [[20], [20, 10, 10], [0, 0, 0, 0]])
        self.assertEqual(
            answers_for([[1, 0, 0], [0, 1, 0], [0, 0, 1], [0, 0, 0]], [9, 5, 6]),
            [[20], [20, 9, 5, 6, 0], [0, 0, 0, 0]],
        )

    def test_21_shots_would_do(self):
        self.assertEqual(answers_for([[1, 2, 0]], [21, 0, 0]), [NO_BEST_PLAN] * 3)
        self.assertEqual(answers_for([[0, 2, 0], [2, 0, 0]], [21, 20, 0]), [NO_BEST_PLAN] * 3)
        self.assertEqual(
            answers_for([[1, 0, 0], [0, 1, 0], [0, 0, 1], [0, 0, 0]], [9, 5, 7]),
            [NO_BEST_PLAN] * 3,
        )

    def test_no_number_of_shots_would_do(self):
        self.assertEqual(answers_for([[6, 6, 0], [6, 6, 0]], [0, 0, 1]), [NO_BEST_PLAN] * 3)
        self.assertEqual(answers_for([[0, 0, 0]] * 4, [1, 0, 0]), [NO_BEST_PLAN] * 3)

    def test_the_greatest_yields_and_amounts(self):
        self.assertEqual(answers_for([[6, 6, 6]], [40, 40, 40]), [[7], [7, 7], [6, 2, 2, 2]])

    def test_the_smaller_total_goes_ahead_of_the_greater_list(self):
        self.assertEqual(
            answers_for([[1, 1, 1], [3, 3, 3]], [3, 3, 3]),
            [[1], [1, 0, 1], [0, 0, 0, 0]],
        )

    def test_lexicographically_greatest_of_the_smallest_total(self):
        self.assertEqual(ask(*setting([[2, 2, 2]] * 4, [6, 6, 5]), best_plan())[-1], [3, 3, 0, 0, 0])
        self.assertEqual(
            answers_for([[1, 0, 0], [2, 1, 0], [1, 2, 0]], [5, 4, 0]),
            [[3], [3, 0, 2, 1], [0, 0, 0, 0]],
        )
        self.assertEqual(
            answers_for([[0, 1, 0], [3, 0, 0], [0, 2, 0], [1, 1, 0]], [3, 1, 0]),
            [[2], [2, 1, 1, 0, 0], [0, 0, 0, 0]],
        )


class ByTryingTest(unittest.TestCase):
    def test_the_same_as_by_trying_all_plans(self):
        for moulds in MOULD_LISTS:
            for demand in DEMANDS[::5]:
                self.assertEqual(answers_for(moulds, demand), answers_by_trying(moulds, demand), (moulds, demand))

    def test_small_moulds_and_demands(self):
        for yields in itertools.product([0, 1, 3], repeat=4):
            moulds = [[yields[0], yields[1], 1], [yields[2], yields[3], 1]]
            for demand in [[3, 3, 0], [5, 1, 2], [0, 7, 3], [20, 20, 20]]:
                self.assertEqual(answers_for(moulds, demand), answers_by_trying(moulds, demand), (moulds, demand))


class MinimalityTest(unittest.TestCase):
    def test_the_plan_is_sufficient_and_none_of_a_smaller_total_is(self):
        moulds = [[2, 2, 0], [0, 2, 2], [3, 0, 1]]
        for demand in DEMANDS[::3]:
            plan = ask(*setting(moulds, demand), best_plan())[-1]
            smaller = range(21) if plan == NO_BEST_PLAN else range(plan[0])
            if plan != NO_BEST_PLAN:
                self.assertEqual(plan[0], sum(plan[1:]))
                self.assertTrue(self.is_sufficient(moulds, plan[1:], demand), demand)
            for total in smaller:
                for other in PLANS[3, total]:
                    self.assertFalse(self.is_sufficient(moulds, other, demand), (demand, other))

    def is_sufficient(self, moulds, plan, demand):
        return all(made >= wanted for made, wanted in zip(parts_made(moulds, plan), demand))


class MonotonicityTest(unittest.TestCase):
    def shots(self, moulds, demand):
        total = answers_for(moulds, demand)[0]
        return 21 if total == NO_BEST_PLAN else total[0]

    def test_less_demand_never_needs_more_shots(self):
        for moulds in [[[2, 1, 0], [0, 1, 3]], [[3, 0, 2], [1, 5, 0], [0, 2, 4]]]:
            for j in range(3):
                for others in [[5, 5, 5], [12, 17, 20]]:
                    totals = []
                    for amount in range(41):
                        demand = list(others)
                        demand[j] = amount
                        totals.append(self.shots(moulds, demand))
                    self.assertEqual(totals, sorted(totals))


class QueryTest(unittest.TestCase):
    def test_queries_change_nothing(self):
        for moulds, demand in [
            ([[2, 1, 0], [0, 1, 3]], [5, 4, 6]),
            ([[2, 1, 0], [0, 1, 3]], [40, 40, 40]),
            ([], [0, 0, 0]),
            ([], [3, 0, 0]),
        ]:
            calls = setting(moulds, demand)
            for query in QUERIES:
                self.assertEqual(state_after(calls + [query]), (moulds, demand), query)
            twice = ask(*calls, *QUERIES, *QUERIES)
            self.assertEqual(twice[-3:], twice[-6:-3])

    def test_queries_follow_every_change(self):
        calls = [
            create(),
            add_mould(1, 1, 0), best_plan(),
            set_all_demand([4, 2, 0]), best_plan(),
            add_mould(2, 0, 0), best_plan(),
            set_demand(2, 3), best_plan(), surplus(),
            set_mould(1, 2, 0, 3), best_plan(), surplus(),
            remove_mould(0), min_shots(),
            set_demand(1, 0), min_shots(), best_plan(),
        ]
        self.assertEqual(ask(*calls), [
            [0],
            [0], [0, 0],
            [6], [4, 4],
            [1], [3, 2, 1],
            [0], NO_BEST_PLAN, NO_BEST_PLAN,
            [0, 2, 0, 0], [3, 2, 1], [0, 0, 0, 0],
            [1], NO_BEST_PLAN,
            [2], [2], [2, 2],
        ])

    def test_a_refused_change_leaves_the_plan(self):
        calls = setting([[2, 1, 0], [0, 1, 3]], [5, 4, 6])
        refused = [
            add_mould(6, 6, 7), remove_mould(2), set_mould(0, 6, 6, -1),
            set_mould(2, 6, 6, 6), set_demand(0, 41), set_demand(3, 0), set_all_demand([0, 0, 41]),
        ]
        self.assertEqual(
            ask(*calls, *refused, *QUERIES)[-10:],
            [[-22], [-2], [-22], [-2], [-22], [-2], [-22], [5], [5, 3, 2], [2, 1, 1, 0]],
        )


if __name__ == "__main__":
    unittest.main()
