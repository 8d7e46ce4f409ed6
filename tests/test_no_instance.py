"""Every call but create, ahead of create."""

import unittest

from tests.helper import (
    GREATEST,
    LEAST,
    NO_INSTANCE,
    add_mould,
    ask,
    best_plan,
    best_prices,
    check_plan,
    check_prices,
    create,
    describe,
    duality_gap,
    make_shots,
    min_shots,
    min_shots_if,
    min_shots_with_only,
    min_shots_without,
    remove_mould,
    set_all_demand,
    set_demand,
    set_mould,
    state_after,
    surplus,
)

FINE = [
    add_mould(1, 1, 1),
    remove_mould(0),
    set_mould(0, 1, 1, 1),
    set_demand(0, 1),
    set_all_demand([1, 1, 1]),
    min_shots(),
    best_plan(),
    surplus(),
    check_plan([]),
    best_prices(1),
    check_prices(1, [1, 1, 1]),
    duality_gap(1),
    min_shots_without(0),
    min_shots_if(0, 1),
    make_shots(0, 1),
    min_shots_with_only(0),
    describe(),
]

OUT_OF_RANGE_TOO = [
    add_mould(-1, 7, LEAST),
    remove_mould(-1),
    set_mould(9, 9, 9, 9),
    set_demand(3, 41),
    set_all_demand([]),
    set_all_demand([-1] * 70),
    check_plan([100]),
    check_plan([LEAST] * 70),
    best_prices(0),
    best_prices(7),
    check_prices(0, [1, 1, 1]),
    check_prices(1000, []),
    check_prices(1, [-1, 1000, GREATEST]),
    check_prices(GREATEST, [GREATEST] * 70),
    duality_gap(0),
    duality_gap(LEAST),
    min_shots_without(-1),
    min_shots_without(GREATEST),
    min_shots_if(3, 0),
    min_shots_if(0, 41),
    min_shots_if(LEAST, GREATEST),
    make_shots(-1, 1),
    make_shots(0, 21),
    make_shots(GREATEST, LEAST),
    min_shots_with_only(4),
    min_shots_with_only(LEAST),
]


class NoInstanceTest(unittest.TestCase):
    def test_each_call_before_create(self):
        self.assertEqual([call[0] for call in FINE], list(range(1, 18)))
        for call in FINE:
            self.assertEqual(ask(call), [NO_INSTANCE], call)

    def test_it_is_checked_ahead_of_every_other_error(self):
        for call in OUT_OF_RANGE_TOO:
            self.assertEqual(ask(call), [NO_INSTANCE], call)

    def test_all_of_them_in_one_request(self):
        calls = FINE + OUT_OF_RANGE_TOO
        self.assertEqual(ask(*calls), [NO_INSTANCE] * len(calls))

    def test_calls_ahead_of_create_do_nothing(self):
        calls = FINE + [create()]
        self.assertEqual(ask(*calls), [NO_INSTANCE] * 17 + [[0]])
        self.assertEqual(state_after(calls), ([], [0, 0, 0]))


if __name__ == "__main__":
    unittest.main()
