"""make_shots: the demand that is left behind n shots of a mould."""

import unittest

from tests.helper import (
    GREATEST,
    LEAST,
    NO_BEST_PLAN,
    NO_SUCH_INDEX,
    OUT_OF_RANGE,
    CallTest,
    answer_after,
    ask,
    create,
    describe,
    make_shots,
    many_shops,
    min_shots,
    setting,
    state_after,
    total_by_trying,
)

MOULDS = [[2, 1, 0], [0, 1, 3], [6, 6, 6]]
DEMAND = [40, 13, 25]
BEFORE = setting(MOULDS, DEMAND)
BAD_INDEXES = [-1, -2, -3, -4, 3, 4, LEAST, GREATEST]
BAD_NUMBERS = [-1, 0, 21, 22, LEAST, GREATEST]
SHOPS = many_shops(200)


def left_behind(demand, mould, n):
    return [max(0, amount - n * count) for amount, count in zip(demand, mould)]


class LeftDemandTest(unittest.TestCase):
    def test_ordinary_shots(self):
        before = setting([[2, 1, 0], [0, 1, 3]], [5, 4, 6])
        self.assertEqual(answer_after(before, make_shots(0, 2)), [2, 1, 2, 6])
        self.assertEqual(answer_after(before, make_shots(1, 1)), [1, 5, 3, 3])

    def test_one_after_another(self):
        calls = BEFORE + [make_shots(0, 3), make_shots(1, 4), make_shots(0, 1)]
        self.assertEqual(ask(*calls)[-3:], [[3, 34, 10, 25], [4, 34, 6, 13], [1, 32, 5, 13]])
        self.assertEqual(state_after(calls), (MOULDS, [32, 5, 13]))

    def test_the_demand_stops_at_0(self):
        before = setting([[2, 3, 6]], [5, 9, 40])
        self.assertEqual(answer_after(before, make_shots(0, 2)), [2, 1, 3, 28])
        self.assertEqual(answer_after(before, make_shots(0, 3)), [3, 0, 0, 22])
        self.assertEqual(answer_after(before, make_shots(0, 20)), [20, 0, 0, 0])
        self.assertEqual(state_after(before + [make_shots(0, 20)]), ([[2, 3, 6]], [0, 0, 0]))

    def test_nothing_made_too_many_is_kept_for_later(self):
        calls = setting([[6, 0, 1], [1, 0, 0]], [5, 0, 3]) + [make_shots(0, 2), make_shots(1, 1), min_shots()]
        self.assertEqual(ask(*calls)[-3:], [[2, 0, 0, 1], [1, 0, 0, 1], [1]])

    def test_a_mould_without_yields(self):
        before = setting([[0, 0, 0]], [5, 9, 40])
        self.assertEqual(answer_after(before, make_shots(0, 20)), [20, 5, 9, 40])

    def test_each_mould_and_number_on_many_shops(self):
        for moulds, demand in SHOPS[:60]:
            before = setting(moulds, demand)
            for i, mould in enumerate(moulds):
                for n in [1, 2, 7, 20]:
                    answer, described = ask(*before, make_shots(i, n), describe())[-2:]
                    left = left_behind(demand, mould, n)
                    self.assertEqual(answer, [n] + left)
                    self.assertEqual(described, answer_after(setting(moulds, left), describe()))

    def test_the_state_behind_it(self):
        for n in [1, 4, 20]:
            for i, mould in enumerate(MOULDS):
                self.assertEqual(
                    state_after(BEFORE + [make_shots(i, n)]), (MOULDS, left_behind(DEMAND, mould, n))
                )


class RangeTest(CallTest):
    def test_ends_of_the_range(self):
        self.assertEqual(answer_after(BEFORE, make_shots(0, 1)), [1, 38, 12, 25])
        self.assertEqual(answer_after(BEFORE, make_shots(0, 20)), [20, 0, 0, 25])

    def test_no_such_mould(self):
        for i in BAD_INDEXES:
            self.assert_nothing_changes(BEFORE, make_shots(i, 1), NO_SUCH_INDEX)
        self.assert_nothing_changes([create()], make_shots(0, 1), NO_SUCH_INDEX)
        self.assert_nothing_changes(setting(MOULDS + [[1, 1, 1]], DEMAND), make_shots(4, 1), NO_SUCH_INDEX)

    def test_number_of_shots_out_of_range(self):
        for i in range(3):
            for n in BAD_NUMBERS:
                self.assert_nothing_changes(BEFORE, make_shots(i, n), OUT_OF_RANGE)

    def test_the_mould_is_checked_ahead_of_the_number(self):
        for i in BAD_INDEXES:
            for n in BAD_NUMBERS:
                self.assert_nothing_changes(BEFORE, make_shots(i, n), NO_SUCH_INDEX)


class ShotsTest(unittest.TestCase):
    def test_shots_made_ahead_never_lower_the_number_in_all(self):
        for moulds, demand in SHOPS:
            before = setting(moulds, demand)
            fewest = answer_after(before, min_shots())
            self.assertEqual(fewest, total_by_trying(moulds, demand))
            least = 21 if fewest == NO_BEST_PLAN else fewest[0]
            for i in range(len(moulds)):
                for n in [1, 2, 5, 20]:
                    rest = answer_after(before + [make_shots(i, n)], min_shots())
                    if rest == NO_BEST_PLAN:
                        self.assertEqual(fewest, NO_BEST_PLAN, (moulds, demand, i, n))
                    else:
                        self.assertGreaterEqual(n + rest[0], least, (moulds, demand, i, n))


if __name__ == "__main__":
    unittest.main()
