"""Plans: what they produce, and the search for the best plan."""

PART_KINDS = 3
MOST_SHOTS = 20


def find_best_plan(moulds, demand):
    for total in range(MOST_SHOTS + 1):
        plan = greatest_plan(moulds, demand, total)
        if plan is not None:
            return plan
    return None


# Trying the larger numbers of shots first makes the first plan found the
# lexicographically greatest of its total.
def greatest_plan(moulds, need, total):
    if is_out_of_reach(moulds, need, total):
        return None
    if len(moulds) == 0:
        return [] if total == 0 else None
    for shots in range(total, -1, -1):
        left = need_after(need, moulds[0], shots)
        rest = greatest_plan(moulds[1:], left, total - shots)
        if rest is not None:
            return [shots] + rest
    return None


# A need that even the most productive mould can't meet with every shot rules
# out all plans of this total at once. Without moulds any need is out of reach.
def is_out_of_reach(moulds, need, total):
    for j in range(PART_KINDS):
        most = max([mould[j] for mould in moulds], default=0)
        if need[j] > total * most:
            return True
    return False


# The need may fall below 0: parts made beyond it don't count against the plan.
def need_after(need, mould, shots):
    return [need[j] - shots * mould[j] for j in range(PART_KINDS)]


def produced(moulds, plan):
    return [parts_of_kind(moulds, plan, j) for j in range(PART_KINDS)]


def parts_of_kind(moulds, plan, j):
    return sum([shots * mould[j] for shots, mould in zip(plan, moulds)])


def is_sufficient(parts, demand):
    return all([parts[j] >= demand[j] for j in range(PART_KINDS)])
