"""Writes requests, takes answers apart, and finds best plans by trying them all."""

from mouldorders.plans import answers

LEAST = -2147483648
GREATEST = 2147483647

NO_INSTANCE = [-11]
NO_SUCH_INDEX = [-2]
OUT_OF_RANGE = [-22]
TOO_MANY_MOULDS = [-28]
NO_BEST_PLAN = [-33]


def create():
    return [0]


def add_mould(yield0, yield1, yield2):
    return [1, yield0, yield1, yield2]


def remove_mould(i):
    return [2, i]


def set_mould(i, yield0, yield1, yield2):
    return [3, i, yield0, yield1, yield2]


def set_demand(j, amount):
    return [4, j, amount]


def set_all_demand(amounts):
    return [5, len(amounts)] + list(amounts)


def min_shots():
    return [6]


def best_plan():
    return [7]


def surplus():
    return [8]


def flat(lists):
    return [number for numbers in lists for number in numbers]


def split_answers(numbers):
    found = []
    place = 0
    while place < len(numbers):
        count = numbers[place]
        found.append(numbers[place + 1:place + 1 + count])
        place += 1 + count
    return found


def ask(*calls):
    """The answers to one request, one list for each call."""
    return split_answers(answers(flat(calls)))


def answer_after(before, call):
    """The answer to `call` alone, made behind the calls of `before`."""
    return ask(*before, call)[-1]


def setting(moulds, demand):
    """The calls that make an instance with these moulds and this demand."""
    return [create()] + [add_mould(*mould) for mould in moulds] + [set_all_demand(demand)]


def state_after(calls):
    """What can be seen of the instance: its moulds and its demand.

    The calls that change something answer what was there before, so each
    mould is read by setting it and each amount by setting it.
    """
    moulds = []
    while True:
        answer = answer_after(calls, set_mould(len(moulds), 0, 0, 0))
        if answer == NO_SUCH_INDEX:
            break
        moulds.append(answer[1:])
    demand = [answer_after(calls, set_demand(j, 0))[0] for j in range(3)]
    return moulds, demand


def all_plans(count, total):
    """Every plan of this total for `count` moulds, the lexicographically greatest first."""
    if count == 0:
        return [[]] if total == 0 else []
    return [
        [shots] + rest
        for shots in range(total, -1, -1)
        for rest in all_plans(count - 1, total - shots)
    ]


PLANS = {(count, total): all_plans(count, total) for count in range(5) for total in range(21)}


def parts_made(moulds, plan):
    return [sum(shots * mould[j] for shots, mould in zip(plan, moulds)) for j in range(3)]


def best_by_trying(moulds, demand):
    """The best plan, or None, straight from the words of the document."""
    for total in range(21):
        good = [
            plan
            for plan in PLANS[len(moulds), total]
            if all(made >= wanted for made, wanted in zip(parts_made(moulds, plan), demand))
        ]
        if good:
            return max(good)
    return None
