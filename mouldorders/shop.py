"""The instance: its moulds, its demand, and the calls on it.

Each call answers a list of whole numbers: what it returns, or one error code.
"""

from mouldorders.planning import PART_KINDS, find_best_plan, produced
from mouldorders.refusals import NO_BEST_PLAN, NO_SUCH_INDEX, OUT_OF_RANGE, TOO_MANY_MOULDS

MOST_MOULDS = 4
MOST_YIELD = 6
MOST_AMOUNT = 40


def all_within(numbers, most):
    return all([0 <= number <= most for number in numbers])


class Shop:
    def __init__(self):
        self.moulds = []
        self.demand = [0, 0, 0]

    def has_mould(self, i):
        return 0 <= i < len(self.moulds)

    def add_mould(self, yields):
        if not all_within(yields, MOST_YIELD):
            return [OUT_OF_RANGE]
        if len(self.moulds) == MOST_MOULDS:
            return [TOO_MANY_MOULDS]
        self.moulds.append(list(yields))
        return [len(self.moulds) - 1]

    def remove_mould(self, i):
        if not self.has_mould(i):
            return [NO_SUCH_INDEX]
        self.moulds.pop(i)
        return [len(self.moulds)]

    def set_mould(self, i, yields):
        if not self.has_mould(i):
            return [NO_SUCH_INDEX]
        if not all_within(yields, MOST_YIELD):
            return [OUT_OF_RANGE]
        old = self.moulds[i]
        self.moulds[i] = list(yields)
        return [0] + old

    def set_demand(self, j, amount):
        if not 0 <= j < PART_KINDS:
            return [NO_SUCH_INDEX]
        if not 0 <= amount <= MOST_AMOUNT:
            return [OUT_OF_RANGE]
        old = self.demand[j]
        self.demand[j] = amount
        return [old]

    def set_all_demand(self, amounts):
        if len(amounts) != PART_KINDS or not all_within(amounts, MOST_AMOUNT):
            return [OUT_OF_RANGE]
        self.demand = list(amounts)
        return [sum(amounts)]

    def min_shots(self):
        plan = find_best_plan(self.moulds, self.demand)
        if plan is None:
            return [NO_BEST_PLAN]
        return [sum(plan)]

    def best_plan(self):
        plan = find_best_plan(self.moulds, self.demand)
        if plan is None:
            return [NO_BEST_PLAN]
        return [sum(plan)] + plan

    def surplus(self):
        plan = find_best_plan(self.moulds, self.demand)
        if plan is None:
            return [NO_BEST_PLAN]
        parts = produced(self.moulds, plan)
        beyond = [parts[j] - self.demand[j] for j in range(PART_KINDS)]
        return [sum(beyond)] + beyond
