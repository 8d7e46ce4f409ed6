"""Writes requests, takes answers apart, and finds best plans and prices by trying them all."""

import itertools
import math
import unittest
from fractions import Fraction

from mouldorders.plans import answers

LEAST = -2147483648
GREATEST = 2147483647

NO_INSTANCE = [-11]
NO_SUCH_INDEX = [-2]
OUT_OF_RANGE = [-22]
TOO_MANY_MOULDS = [-28]
NO_BEST_PLAN = [-33]


def create():
    return [0]


def add_mould(yield0, yield1, yield2):
    return [1, yield0, yield1, yield2]


def remove_mould(i):
    return [2, i]


def set_mould(i, yield0, yield1, yield2):
    return [3, i, yield0, yield1, yield2]


def set_demand(j, amount):
    return [4, j, amount]


def set_all_demand(amounts):
    return [5, len(amounts)] + list(amounts)


def min_shots():
    return [6]


def best_plan():
    return [7]


def surplus():
    return [8]


def check_plan(plan):
    return [9, len(plan)] + list(plan)


def best_prices(level):
    return [10, level]


def check_prices(level, prices):
    return [11, level, len(prices)] + list(prices)


def duality_gap(level):
    return [12, level]


def min_shots_without(i):
    return [13, i]


def min_shots_if(j, amount):
    return [14, j, amount]


def make_shots(i, n):
    return [15, i, n]


def min_shots_with_only(i):
    return [16, i]


def describe():
    return [17]


def flat(lists):
    return [number for numbers in lists for number in numbers]


def split_answers(numbers):
    found = []
    place = 0
    while place < len(numbers):
        count = numbers[place]
        found.append(numbers[place + 1:place + 1 + count])
        place += 1 + count
    return found


def ask(*calls):
    """The answers to one request, one list for each call."""
    return split_answers(answers(flat(calls)))


def answer_after(before, call):
    """The answer to `call` alone, made behind the calls of `before`."""
    return ask(*before, call)[-1]


def ask_each(before, queries):
    """The answer to each query, all of them made behind the calls of `before`.

    The queries change nothing, so as many as fit go into one request.
    """
    room = 60 - len(before)
    found = []
    for start in range(0, len(queries), room):
        found += ask(*before, *queries[start:start + room])[len(before):]
    return found


def setting(moulds, demand):
    """The calls that make an instance with these moulds and this demand."""
    return [create()] + [add_mould(*mould) for mould in moulds] + [set_all_demand(demand)]


def state_after(calls):
    """What can be seen of the instance: its moulds and its demand.

    The calls that change something answer what was there before, so each
    mould is read by setting it and each amount by setting it. That doesn't
    rest on describe, which is itself to be tested.
    """
    moulds = []
    while True:
        answer = answer_after(calls, set_mould(len(moulds), 0, 0, 0))
        if answer == NO_SUCH_INDEX:
            break
        moulds.append(answer[1:])
    demand = [answer_after(calls, set_demand(j, 0))[0] for j in range(3)]
    return moulds, demand


def with_value(values, place, value):
    return values[:place] + [value] + values[place + 1:]


class CallTest(unittest.TestCase):
    def assert_nothing_changes(self, before, call, answer):
        """The call is answered so, and the instance is the same behind it."""
        ahead, given, behind = ask(*before, describe(), call, describe())[-3:]
        self.assertEqual(given, answer, call)
        self.assertEqual(behind, ahead, call)
        self.assertEqual(state_after(before + [call]), state_after(before), call)


def all_plans(count, total):
    """Every plan of this total for `count` moulds, the lexicographically greatest first."""
    if count == 0:
        return [[]] if total == 0 else []
    return [
        [shots] + rest
        for shots in range(total, -1, -1)
        for rest in all_plans(count - 1, total - shots)
    ]


PLANS = {(count, total): all_plans(count, total) for count in range(5) for total in range(21)}


def parts_made(moulds, plan):
    return [sum(shots * mould[j] for shots, mould in zip(plan, moulds)) for j in range(3)]


def best_by_trying(moulds, demand):
    """The best plan, or None, straight from the words of the document."""
    for total in range(21):
        good = [
            plan
            for plan in PLANS[len(moulds), total]
            if all(made >= wanted for made, wanted in zip(parts_made(moulds, plan), demand))
        ]
        if good:
            return max(good)
    return None


def total_by_trying(moulds, demand):
    plan = best_by_trying(moulds, demand)
    return NO_BEST_PLAN if plan is None else [sum(plan)]


def worth(prices, parts):
    return sum(price * count for price, count in zip(prices, parts))


def bound_by_words(demand, level, prices):
    return math.ceil(Fraction(worth(prices, demand), level))


def feasible_by_words(moulds, level, prices):
    return all(worth(prices, mould) <= level for mould in moulds)


def best_prices_by_trying(moulds, demand, level):
    """The bound of the best prices and these prices, straight from the words of the document."""
    feasible = [
        list(prices)
        for prices in itertools.product(range(level + 1), repeat=3)
        if feasible_by_words(moulds, level, prices)
    ]
    greatest = max(bound_by_words(demand, level, prices) for prices in feasible)
    return [greatest] + min(
        prices for prices in feasible if bound_by_words(demand, level, prices) == greatest
    )


def many_shops(count):
    """Shops with none to four moulds and all sizes of demand, the same at every run."""
    state = 2026
    shops = []
    while len(shops) < count:
        drawn = []
        for _ in range(15):
            state = (state * 1103515245 + 12345) % 2147483648
            drawn.append(state // 65536)
        most_yield = [1, 2, 3, 6][len(shops) % 4]
        most_amount = [4, 12, 25, 40][len(shops) // 4 % 4]
        moulds = [
            [number % (most_yield + 1) for number in drawn[3 * i:3 * i + 3]]
            for i in range(len(shops) % 5)
        ]
        shops.append((moulds, [number % (most_amount + 1) for number in drawn[12:]]))
    return shops
