"""The interface: how calls come in and answers go out."""

import unittest

from mouldorders.plans import answers
from tests.helper import (
    GREATEST,
    LEAST,
    add_mould,
    ask,
    best_plan,
    best_prices,
    check_plan,
    check_prices,
    create,
    describe,
    duality_gap,
    flat,
    make_shots,
    min_shots,
    min_shots_if,
    min_shots_with_only,
    min_shots_without,
    remove_mould,
    set_all_demand,
    set_demand,
    set_mould,
    setting,
    surplus,
)

EXAMPLE_CALLS = [
    create(),
    add_mould(2, 1, 0),
    add_mould(0, 1, 3),
    set_all_demand([5, 4, 6]),
    best_plan(),
    surplus(),
    check_plan([3, 1]),
    best_prices(2),
    duality_gap(2),
    check_prices(6, [3, 0, 2]),
    make_shots(0, 2),
    min_shots(),
    min_shots_with_only(0),
]
EXAMPLE_LISTS = [
    [0], [0], [1], [15], [5, 3, 2], [2, 1, 1, 0], [0, 4, 6, 4, 3],
    [4, 0, 2, 0], [1], [1, 5], [2, 1, 2, 6], [3], [-33],
]
EXAMPLE = [
    0, 1, 2, 1, 0, 1, 0, 1, 3, 5, 3, 5, 4, 6, 7, 8, 9, 2, 3, 1,
    10, 2, 12, 2, 11, 6, 3, 3, 0, 2, 15, 0, 2, 6, 16, 0,
]
EXAMPLE_ANSWERS = [
    1, 0, 1, 0, 1, 1, 1, 15, 3, 5, 3, 2, 4, 2, 1, 1, 0, 5, 0, 4, 6, 4, 3,
    4, 4, 0, 2, 0, 1, 1, 2, 1, 5, 4, 2, 1, 2, 6, 1, 3, 1, -33,
]

# Behind the example: the calls that it leaves out, and one min_shots.
OTHER_CALLS = [
    min_shots_without(0),
    min_shots_if(0, 0),
    set_mould(0, 1, 0, 0),
    set_demand(1, 3),
    min_shots(),
    remove_mould(1),
    describe(),
]
OTHER_LISTS = [[-33], [2], [0, 2, 1, 0], [2], [4], [1], [1, 1, 0, 0, 1, 3, 6]]

LONG = [1] * 70


class FormTest(unittest.TestCase):
    def test_the_example_number_by_number(self):
        self.assertEqual(answers(EXAMPLE), EXAMPLE_ANSWERS)
        self.assertEqual(flat(EXAMPLE_CALLS), EXAMPLE)
        self.assertEqual(ask(*EXAMPLE_CALLS), EXAMPLE_LISTS)

    def test_every_call_number_by_number(self):
        self.assertEqual(answers([0]), [1, 0])
        self.assertEqual(answers([0, 1, 6, 5, 4]), [1, 0, 1, 0])
        self.assertEqual(answers([0, 1, 6, 5, 4, 2, 0]), [1, 0, 1, 0, 1, 0])
        self.assertEqual(answers([0, 1, 6, 5, 4, 3, 0, 1, 2, 3]), [1, 0, 1, 0, 4, 0, 6, 5, 4])
        self.assertEqual(answers([0, 4, 2, 9, 4, 2, 3]), [1, 0, 1, 0, 1, 9])
        self.assertEqual(answers([0, 5, 3, 1, 2, 4]), [1, 0, 1, 7])
        self.assertEqual(answers([0, 6]), [1, 0, 1, 0])
        self.assertEqual(answers([0, 7]), [1, 0, 1, 0])
        self.assertEqual(answers([0, 8]), [1, 0, 4, 0, 0, 0, 0])
        self.assertEqual(answers([0, 9, 0]), [1, 0, 5, 1, 0, 0, 0, 0])
        self.assertEqual(answers([0, 1, 6, 5, 4, 9, 1, 2]), [1, 0, 1, 0, 5, 1, 2, 12, 10, 8])
        self.assertEqual(answers([0, 10, 3]), [1, 0, 4, 0, 0, 0, 0])
        self.assertEqual(answers([0, 11, 5, 3, 1, 2, 3]), [1, 0, 2, 1, 0])
        self.assertEqual(answers([0, 12, 6]), [1, 0, 1, 0])
        self.assertEqual(answers([0, 1, 6, 5, 4, 13, 0]), [1, 0, 1, 0, 1, 0])
        self.assertEqual(answers([0, 1, 6, 5, 4, 14, 2, 12]), [1, 0, 1, 0, 1, 3])
        self.assertEqual(answers([0, 1, 6, 5, 4, 15, 0, 7]), [1, 0, 1, 0, 4, 7, 0, 0, 0])
        self.assertEqual(answers([0, 1, 6, 5, 4, 16, 0]), [1, 0, 1, 0, 1, 0])
        self.assertEqual(answers([0, 17]), [1, 0, 4, 0, 0, 0, 0])
        self.assertEqual(answers([0, 1, 6, 5, 4, 17]), [1, 0, 1, 0, 7, 1, 6, 5, 4, 0, 0, 0])

    def test_an_error_is_the_only_number_of_its_answer(self):
        self.assertEqual(
            answers([6, 0, 2, 0, 1, 0, 7, 0, 4, 0, 40, 6, 7, 8]),
            [1, -11, 1, 0, 1, -2, 1, -22, 1, 0, 1, -33, 1, -33, 1, -33],
        )

    def test_a_refused_row_is_passed_over_whole(self):
        for row in [[], [1], [0, 0], [0, 0, 0, 0], [0] * 70, [LEAST, GREATEST]]:
            for call in [set_all_demand(row), check_prices(5, row), check_plan(row + [100])]:
                self.assertEqual(ask(call, create(), call, set_demand(0, 4)), [[-11], [0], [-22], [0]])

    def test_a_row_is_passed_over_whole_though_what_is_ahead_of_it_is_refused(self):
        for level in [0, 1000, 17, LEAST, GREATEST]:
            for length in range(5):
                self.assertEqual(
                    ask(create(), check_prices(level, [0] * length), describe())[2], [0, 0, 0, 0]
                )

    def test_every_answer_is_of_whole_numbers(self):
        for number in answers(EXAMPLE) + answers(flat([create()] + OTHER_CALLS)):
            self.assertIs(type(number), int)
        self.assertIs(type(answers(EXAMPLE)), list)


class RequestTest(unittest.TestCase):
    def test_nothing_is_left_of_a_request(self):
        for request in [[6], [1, 1, 1, 1], [5, 3, 1, 1, 1], [15, 0, 1], [17]]:
            self.assertEqual(answers(EXAMPLE), EXAMPLE_ANSWERS)
            self.assertEqual(answers(request), [1, -11])
        self.assertEqual(answers([0, 6, 2, 0]), [1, 0, 1, 0, 1, -2])
        self.assertEqual(answers([0, 17]), [1, 0, 4, 0, 0, 0, 0])
        self.assertEqual(answers(EXAMPLE), EXAMPLE_ANSWERS)

    def test_an_answer_is_a_list_of_its_own(self):
        first = answers(EXAMPLE)
        first.append(99)
        self.assertEqual(answers(EXAMPLE), EXAMPLE_ANSWERS)

    def test_the_list_handed_in_stays_as_it_was(self):
        for request in [
            EXAMPLE,
            flat(setting([[1, 2, 3]] * 4, [40, 40, 40]) + [[3, 0, 6, 6, 6], [4, 0, 3], [2, 1], [7], [8]]),
            [5, 0, 0, 5, 70] + [LEAST] * 70,
            flat(EXAMPLE_CALLS + OTHER_CALLS),
            flat([create(), check_plan(LONG), check_prices(3, LONG), check_prices(3, [GREATEST, 1, 1])]),
        ]:
            handed_in = list(request)
            answers(handed_in)
            self.assertEqual(handed_in, request)

    def test_60_calls(self):
        calls = [create(), add_mould(1, 0, 0)]
        wanted = [[0], [0]]
        for amount in range(1, 30):
            calls += [set_demand(0, amount), best_plan()]
            wanted += [[amount - 1], [amount, amount] if amount <= 20 else [-33]]
        self.assertEqual(len(calls), 60)
        self.assertEqual(ask(*calls), wanted)

    def test_60_calls_with_all_18_among_them(self):
        calls = (EXAMPLE_CALLS + OTHER_CALLS) * 3
        self.assertEqual(len(calls), 60)
        self.assertEqual(sorted({call[0] for call in calls}), list(range(18)))
        self.assertEqual(ask(*calls), (EXAMPLE_LISTS + OTHER_LISTS) * 3)
        self.assertEqual(ask(*calls), (EXAMPLE_LISTS + OTHER_LISTS) * 3)

    def test_60_calls_with_the_longest_rows(self):
        for call in [set_all_demand(LONG), check_plan(LONG), check_prices(1, LONG)]:
            calls = [create()] + [call] * 59
            self.assertLessEqual(len(flat(calls)), 4400)
            self.assertEqual(ask(*calls), [[0]] + [[-22]] * 59)

    def test_60_searches_with_four_moulds(self):
        calls = setting([[1, 0, 0], [0, 0, 0], [0, 1, 0], [0, 0, 1]], [0, 10, 10])
        queries = [
            min_shots(), best_plan(), surplus(), duality_gap(6), min_shots_without(1), min_shots_if(0, 0),
        ] * 9
        self.assertEqual(len(calls + queries), 60)
        self.assertEqual(
            ask(*calls, *queries)[6:],
            [[20], [20, 0, 0, 10, 10], [0, 0, 0, 0], [0], [20], [20]] * 9,
        )


if __name__ == "__main__":
    unittest.main()
