"""The instance: its moulds, its demand, and the calls on it.

Each call answers a list of whole numbers: what it returns, or one error code.
"""

from mouldorders.planning import PART_KINDS, find_best_plan, is_sufficient, need_after, produced
from mouldorders.pricing import are_feasible, find_best_prices, lower_bound
from mouldorders.refusals import NO_BEST_PLAN, NO_SUCH_INDEX, OUT_OF_RANGE, TOO_MANY_MOULDS

MOST_MOULDS = 4
MOST_YIELD = 6
MOST_AMOUNT = 40
MOST_PLANNED = 99
MOST_MADE = 20
MOST_LEVEL = 6
MOST_LEVEL_CHECKED = 999
MOST_PRICE = 999


def all_within(numbers, most):
    return all([0 <= number <= most for number in numbers])


def total_of_best_plan(moulds, demand):
    plan = find_best_plan(moulds, demand)
    if plan is None:
        return [NO_BEST_PLAN]
    return [sum(plan)]


class Shop:
    def __init__(self):
        self.moulds = []
        self.demand = [0, 0, 0]

    def has_mould(self, i):
        return 0 <= i < len(self.moulds)

    def add_mould(self, yields):
        if not all_within(yields, MOST_YIELD):
            return [OUT_OF_RANGE]
        if len(self.moulds) == MOST_MOULDS:
            return [TOO_MANY_MOULDS]
        self.moulds.append(list(yields))
        return [len(self.moulds) - 1]

    def remove_mould(self, i):
        if not self.has_mould(i):
            return [NO_SUCH_INDEX]
        self.moulds.pop(i)
        return [len(self.moulds)]

    def set_mould(self, i, yields):
        if not self.has_mould(i):
            return [NO_SUCH_INDEX]
        if not all_within(yields, MOST_YIELD):
            return [OUT_OF_RANGE]
        old = self.moulds[i]
        self.moulds[i] = list(yields)
        return [0] + old

    def set_demand(self, j, amount):
        if not 0 <= j < PART_KINDS:
            return [NO_SUCH_INDEX]
        if not 0 <= amount <= MOST_AMOUNT:
            return [OUT_OF_RANGE]
        old = self.demand[j]
        self.demand[j] = amount
        return [old]

    def set_all_demand(self, amounts):
        if len(amounts) != PART_KINDS or not all_within(amounts, MOST_AMOUNT):
            return [OUT_OF_RANGE]
        self.demand = list(amounts)
        return [sum(amounts)]

    def min_shots(self):
        return total_of_best_plan(self.moulds, self.demand)

    def best_plan(self):
        plan = find_best_plan(self.moulds, self.demand)
        if plan is None:
            return [NO_BEST_PLAN]
        return [sum(plan)] + plan

    def surplus(self):
        plan = find_best_plan(self.moulds, self.demand)
        if plan is None:
            return [NO_BEST_PLAN]
        parts = produced(self.moulds, plan)
        beyond = [parts[j] - self.demand[j] for j in range(PART_KINDS)]
        return [sum(beyond)] + beyond

    def check_plan(self, plan):
        if len(plan) != len(self.moulds) or not all_within(plan, MOST_PLANNED):
            return [OUT_OF_RANGE]
        parts = produced(self.moulds, plan)
        sufficient = 1 if is_sufficient(parts, self.demand) else 0
        return [sufficient, sum(plan)] + parts

    def best_prices(self, level):
        if not 1 <= level <= MOST_LEVEL:
            return [OUT_OF_RANGE]
        prices = find_best_prices(self.moulds, self.demand, level)
        return [lower_bound(self.demand, level, prices)] + prices

    def check_prices(self, level, prices):
        if not 1 <= level <= MOST_LEVEL_CHECKED:
            return [OUT_OF_RANGE]
        if len(prices) != PART_KINDS or not all_within(prices, MOST_PRICE):
            return [OUT_OF_RANGE]
        feasible = 1 if are_feasible(self.moulds, level, prices) else 0
        return [feasible, lower_bound(self.demand, level, prices)]

    def duality_gap(self, level):
        if not 1 <= level <= MOST_LEVEL:
            return [OUT_OF_RANGE]
        plan = find_best_plan(self.moulds, self.demand)
        if plan is None:
            return [NO_BEST_PLAN]
        prices = find_best_prices(self.moulds, self.demand, level)
        return [sum(plan) - lower_bound(self.demand, level, prices)]

    def min_shots_without(self, i):
        if not self.has_mould(i):
            return [NO_SUCH_INDEX]
        return total_of_best_plan(self.moulds[:i] + self.moulds[i + 1:], self.demand)

    def min_shots_if(self, j, amount):
        if not 0 <= j < PART_KINDS:
            return [NO_SUCH_INDEX]
        if not 0 <= amount <= MOST_AMOUNT:
            return [OUT_OF_RANGE]
        demand = list(self.demand)
        demand[j] = amount
        return total_of_best_plan(self.moulds, demand)

    def make_shots(self, i, n):
        if not self.has_mould(i):
            return [NO_SUCH_INDEX]
        if not 1 <= n <= MOST_MADE:
            return [OUT_OF_RANGE]
        left = need_after(self.demand, self.moulds[i], n)
        self.demand = [max(0, amount) for amount in left]
        return [n] + self.demand

    def min_shots_with_only(self, i):
        if not self.has_mould(i):
            return [NO_SUCH_INDEX]
        return total_of_best_plan([self.moulds[i]], self.demand)

    def describe(self):
        answer = [len(self.moulds)]
        for mould in self.moulds:
            answer.extend(mould)
        return answer + self.demand
