"""The calls that make and change the instance: 0 to 5."""

import unittest

from tests.helper import (
    GREATEST,
    LEAST,
    NO_SUCH_INDEX,
    OUT_OF_RANGE,
    TOO_MANY_MOULDS,
    CallTest,
    add_mould,
    answer_after,
    ask,
    create,
    remove_mould,
    set_all_demand,
    set_demand,
    set_mould,
    setting,
    state_after,
    with_value,
)

MOULDS = [[1, 2, 3], [4, 5, 6], [6, 0, 1]]
DEMAND = [7, 8, 9]
BEFORE = setting(MOULDS, DEMAND)
FULL = MOULDS + [[2, 2, 5]]
BEFORE_FULL = setting(FULL, DEMAND)
BAD_YIELDS = [-1, 7, LEAST, GREATEST]
BAD_AMOUNTS = [-1, 41, LEAST, GREATEST]
BAD_INDEXES = [-1, -2, -3, -4, 3, 4, LEAST, GREATEST]


class CreateTest(unittest.TestCase):
    def test_new_instance_is_empty(self):
        self.assertEqual(ask(create()), [[0]])
        self.assertEqual(state_after([create()]), ([], [0, 0, 0]))

    def test_it_replaces_an_instance(self):
        calls = BEFORE_FULL + [create()]
        self.assertEqual(ask(*calls)[-1], [0])
        self.assertEqual(state_after(calls), ([], [0, 0, 0]))
        self.assertEqual(answer_after(calls, add_mould(1, 1, 1)), [0])


class AddMouldTest(CallTest):
    def test_indexes_and_yields(self):
        self.assertEqual(ask(create(), *[add_mould(*mould) for mould in FULL]), [[0], [0], [1], [2], [3]])
        self.assertEqual(state_after(BEFORE_FULL), (FULL, DEMAND))

    def test_ends_of_the_range(self):
        for yields in [[0, 0, 0], [6, 6, 6], [0, 6, 0], [6, 0, 6]]:
            self.assertEqual(answer_after(BEFORE, add_mould(*yields)), [3])
            self.assertEqual(state_after(BEFORE + [add_mould(*yields)]), (MOULDS + [yields], DEMAND))

    def test_each_yield_out_of_range(self):
        for place in range(3):
            for bad in BAD_YIELDS:
                self.assert_nothing_changes(BEFORE, add_mould(*with_value([1, 2, 3], place, bad)), OUT_OF_RANGE)

    def test_a_fifth_mould(self):
        self.assert_nothing_changes(BEFORE_FULL, add_mould(1, 1, 1), TOO_MANY_MOULDS)

    def test_the_range_is_checked_ahead_of_the_number_of_moulds(self):
        for place in range(3):
            for bad in BAD_YIELDS:
                self.assert_nothing_changes(BEFORE_FULL, add_mould(*with_value([1, 2, 3], place, bad)), OUT_OF_RANGE)

    def test_there_is_room_again_behind_remove_mould(self):
        calls = BEFORE_FULL + [add_mould(1, 1, 1), remove_mould(1), add_mould(0, 1, 0), add_mould(1, 1, 1)]
        self.assertEqual(ask(*calls)[-4:], [TOO_MANY_MOULDS, [3], [3], TOO_MANY_MOULDS])
        self.assertEqual(state_after(calls)[0], [FULL[0], FULL[2], FULL[3], [0, 1, 0]])


class RemoveMouldTest(CallTest):
    def test_each_mould(self):
        for i in range(4):
            calls = BEFORE_FULL + [remove_mould(i)]
            self.assertEqual(ask(*calls)[-1], [3])
            self.assertEqual(state_after(calls), (FULL[:i] + FULL[i + 1:], DEMAND))

    def test_down_to_none(self):
        calls = BEFORE + [remove_mould(0)] * 4
        self.assertEqual(ask(*calls)[-4:], [[2], [1], [0], NO_SUCH_INDEX])
        self.assertEqual(state_after(calls), ([], DEMAND))

    def test_no_such_mould(self):
        for i in BAD_INDEXES:
            self.assert_nothing_changes(BEFORE, remove_mould(i), NO_SUCH_INDEX)
        self.assert_nothing_changes([create()], remove_mould(0), NO_SUCH_INDEX)
        self.assert_nothing_changes(BEFORE_FULL, remove_mould(4), NO_SUCH_INDEX)


class SetMouldTest(CallTest):
    def test_it_answers_the_yields_before(self):
        for i in range(3):
            calls = BEFORE + [set_mould(i, 0, 6, 2), set_mould(i, 3, 3, 3)]
            self.assertEqual(ask(*calls)[-2:], [[0] + MOULDS[i], [0, 0, 6, 2]])
            self.assertEqual(state_after(calls), (with_value(MOULDS, i, [3, 3, 3]), DEMAND))

    def test_ends_of_the_range(self):
        for yields in [[0, 0, 0], [6, 6, 6]]:
            self.assertEqual(answer_after(BEFORE, set_mould(1, *yields)), [0, 4, 5, 6])
            self.assertEqual(state_after(BEFORE + [set_mould(1, *yields)])[0][1], yields)

    def test_no_such_mould(self):
        for i in BAD_INDEXES:
            self.assert_nothing_changes(BEFORE, set_mould(i, 1, 1, 1), NO_SUCH_INDEX)
        self.assert_nothing_changes([create()], set_mould(0, 1, 1, 1), NO_SUCH_INDEX)
        self.assert_nothing_changes(BEFORE_FULL, set_mould(4, 1, 1, 1), NO_SUCH_INDEX)

    def test_each_yield_out_of_range(self):
        for place in range(3):
            for bad in BAD_YIELDS:
                self.assert_nothing_changes(BEFORE, set_mould(1, *with_value([1, 2, 3], place, bad)), OUT_OF_RANGE)

    def test_the_index_is_checked_ahead_of_the_yields(self):
        for i in BAD_INDEXES:
            self.assert_nothing_changes(BEFORE, set_mould(i, -1, 7, GREATEST), NO_SUCH_INDEX)


class SetDemandTest(CallTest):
    def test_it_answers_the_amount_before(self):
        for j in range(3):
            calls = BEFORE + [set_demand(j, 40), set_demand(j, 0), set_demand(j, 5)]
            self.assertEqual(ask(*calls)[-3:], [[DEMAND[j]], [40], [0]])
            self.assertEqual(state_after(calls), (MOULDS, with_value(DEMAND, j, 5)))

    def test_no_such_part(self):
        for j in BAD_INDEXES:
            self.assert_nothing_changes(BEFORE_FULL, set_demand(j, 1), NO_SUCH_INDEX)

    def test_amount_out_of_range(self):
        for j in range(3):
            for bad in BAD_AMOUNTS:
                self.assert_nothing_changes(BEFORE, set_demand(j, bad), OUT_OF_RANGE)

    def test_the_part_is_checked_ahead_of_the_amount(self):
        for j in BAD_INDEXES:
            for bad in BAD_AMOUNTS:
                self.assert_nothing_changes(BEFORE, set_demand(j, bad), NO_SUCH_INDEX)


class SetAllDemandTest(CallTest):
    def test_it_answers_the_sum(self):
        for amounts in [[1, 2, 4], [0, 0, 0], [40, 40, 40], [0, 40, 0], [40, 0, 40]]:
            calls = BEFORE + [set_all_demand(amounts)]
            self.assertEqual(ask(*calls)[-1], [sum(amounts)])
            self.assertEqual(state_after(calls), (MOULDS, amounts))

    def test_other_lengths(self):
        for length in [0, 1, 2, 4, 70]:
            self.assert_nothing_changes(BEFORE, set_all_demand([1] * length), OUT_OF_RANGE)

    def test_other_lengths_with_amounts_out_of_range(self):
        for length in [1, 2, 4, 70]:
            self.assert_nothing_changes(BEFORE, set_all_demand([41] * length), OUT_OF_RANGE)

    def test_each_amount_out_of_range(self):
        for place in range(3):
            for bad in BAD_AMOUNTS:
                self.assert_nothing_changes(BEFORE, set_all_demand(with_value([1, 2, 3], place, bad)), OUT_OF_RANGE)


if __name__ == "__main__":
    unittest.main()
