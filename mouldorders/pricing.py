"""Prices for the kinds of parts, and the lower bound on the shots that they prove."""

from mouldorders.planning import PART_KINDS


def worth(prices, parts):
    return sum([prices[j] * parts[j] for j in range(PART_KINDS)])


# Without moulds nothing limits the prices: all of them are feasible.
def are_feasible(moulds, level, prices):
    return all([worth(prices, mould) <= level for mould in moulds])


# Adding level - 1 ahead of the division rounds up: no worth is below 0.
def lower_bound(demand, level, prices):
    return (worth(prices, demand) + level - 1) // level


# The prices come lexicographically ascending, so of several with the greatest
# lower bound the first is kept. Prices of 0 are always feasible and begin.
def find_best_prices(moulds, demand, level):
    best = [0] * PART_KINDS
    greatest = 0
    for prices in all_prices(level):
        bound = lower_bound(demand, level, prices)
        if bound > greatest and are_feasible(moulds, level, prices):
            best = prices
            greatest = bound
    return best


def all_prices(level):
    found = [[]]
    for j in range(PART_KINDS):
        found = with_one_more_price(found, level)
    return found


def with_one_more_price(lists, level):
    longer = []
    for prices in lists:
        longer.extend([prices + [price] for price in range(level + 1)])
    return longer
