"""The interface: how calls come in and answers go out."""

import unittest

from mouldorders.plans import answers
from tests.helper import (
    GREATEST,
    LEAST,
    add_mould,
    ask,
    best_plan,
    create,
    flat,
    min_shots,
    set_all_demand,
    set_demand,
    setting,
    surplus,
)

EXAMPLE = [0, 1, 2, 1, 0, 1, 0, 1, 3, 5, 3, 5, 4, 6, 7, 8]
EXAMPLE_ANSWERS = [1, 0, 1, 0, 1, 1, 1, 15, 3, 5, 3, 2, 4, 2, 1, 1, 0]


class FormTest(unittest.TestCase):
    def test_the_example_number_by_number(self):
        self.assertEqual(answers(EXAMPLE), EXAMPLE_ANSWERS)

    def test_every_call_number_by_number(self):
        self.assertEqual(answers([0]), [1, 0])
        self.assertEqual(answers([0, 1, 6, 5, 4]), [1, 0, 1, 0])
        self.assertEqual(answers([0, 1, 6, 5, 4, 2, 0]), [1, 0, 1, 0, 1, 0])
        self.assertEqual(answers([0, 1, 6, 5, 4, 3, 0, 1, 2, 3]), [1, 0, 1, 0, 4, 0, 6, 5, 4])
        self.assertEqual(answers([0, 4, 2, 9, 4, 2, 3]), [1, 0, 1, 0, 1, 9])
        self.assertEqual(answers([0, 5, 3, 1, 2, 4]), [1, 0, 1, 7])
        self.assertEqual(answers([0, 6]), [1, 0, 1, 0])
        self.assertEqual(answers([0, 7]), [1, 0, 1, 0])
        self.assertEqual(answers([0, 8]), [1, 0, 4, 0, 0, 0, 0])

    def test_an_error_is_the_only_number_of_its_answer(self):
        self.assertEqual(
            answers([6, 0, 2, 0, 1, 0, 7, 0, 4, 0, 40, 6, 7, 8]),
            [1, -11, 1, 0, 1, -2, 1, -22, 1, 0, 1, -33, 1, -33, 1, -33],
        )

    def test_a_refused_row_is_passed_over_whole(self):
        for row in [[], [1], [0, 0], [0, 0, 0, 0], [0] * 70, [LEAST, GREATEST]]:
            self.assertEqual(
                ask(set_all_demand(row), create(), set_all_demand(row), set_demand(0, 4)),
                [[-11], [0], [-22], [0]],
            )

    def test_every_answer_is_of_whole_numbers(self):
        for number in answers(EXAMPLE) + answers([0, 6, 7, 8, 2, 0]):
            self.assertIs(type(number), int)
        self.assertIs(type(answers(EXAMPLE)), list)


class RequestTest(unittest.TestCase):
    def test_nothing_is_left_of_a_request(self):
        for request in [[6], [1, 1, 1, 1], [5, 3, 1, 1, 1]]:
            self.assertEqual(answers(EXAMPLE), EXAMPLE_ANSWERS)
            self.assertEqual(answers(request), [1, -11])
        self.assertEqual(answers([0, 6, 2, 0]), [1, 0, 1, 0, 1, -2])
        self.assertEqual(answers(EXAMPLE), EXAMPLE_ANSWERS)

    def test_an_answer_is_a_list_of_its_own(self):
        first = answers(EXAMPLE)
        first.append(99)
        self.assertEqual(answers(EXAMPLE), EXAMPLE_ANSWERS)

    def test_the_list_handed_in_stays_as_it_was(self):
        for request in [
            EXAMPLE,
            flat(setting([[1, 2, 3]] * 4, [40, 40, 40]) + [[3, 0, 6, 6, 6], [4, 0, 3], [2, 1], [7], [8]]),
            [5, 0, 0, 5, 70] + [LEAST] * 70,
        ]:
            handed_in = list(request)
            answers(handed_in)
            self.assertEqual(handed_in, request)

    def test_60_calls(self):
        calls = [create(), add_mould(1, 0, 0)]
        wanted = [[0], [0]]
        for amount in range(1, 30):
            calls += [set_demand(0, amount), best_plan()]
            wanted += [[amount - 1], [amount, amount] if amount <= 20 else [-33]]
        self.assertEqual(len(calls), 60)
        self.assertEqual(ask(*calls), wanted)

    def test_60_calls_with_the_longest_rows(self):
        calls = [create()] + [set_all_demand([1] * 70)] * 59
        self.assertEqual(ask(*calls), [[0]] + [[-22]] * 59)

    def test_60_searches_with_four_moulds(self):
        calls = setting([[1, 0, 0], [0, 0, 0], [0, 1, 0], [0, 0, 1]], [0, 10, 10])
        queries = [min_shots(), best_plan(), surplus()] * 18
        self.assertEqual(len(calls + queries), 60)
        self.assertEqual(
            ask(*calls, *queries)[6:],
            [[20], [20, 0, 0, 10, 10], [0, 0, 0, 0]] * 18,
        )


if __name__ == "__main__":
    unittest.main()
