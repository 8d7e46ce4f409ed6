"""The interface: answers(calls) carries out one request."""

from mouldorders.reading import read_calls
from mouldorders.refusals import NO_INSTANCE
from mouldorders.shop import Shop


def answers(calls):
    shop = None
    given = []
    for call in read_calls(calls):
        if call.name == "create":
            shop = Shop()
            answer = [0]
        elif shop is None:
            answer = [NO_INSTANCE]
        else:
            answer = answer_of(shop, call)
        given.append(len(answer))
        given.extend(answer)
    return given


def answer_of(shop, call):
    singles = call.singles
    if call.name == "add_mould":
        return shop.add_mould(singles)
    if call.name == "remove_mould":
        return shop.remove_mould(singles[0])
    if call.name == "set_mould":
        return shop.set_mould(singles[0], singles[1:])
    if call.name == "set_demand":
        return shop.set_demand(singles[0], singles[1])
    if call.name == "set_all_demand":
        return shop.set_all_demand(call.row)
    if call.name == "make_shots":
        return shop.make_shots(singles[0], singles[1])
    return answer_of_query(shop, call)


# The calls that leave the instance as it is.
def answer_of_query(shop, call):
    singles = call.singles
    if call.name == "min_shots":
        return shop.min_shots()
    if call.name == "best_plan":
        return shop.best_plan()
    if call.name == "surplus":
        return shop.surplus()
    if call.name == "check_plan":
        return shop.check_plan(call.row)
    if call.name == "best_prices":
        return shop.best_prices(singles[0])
    if call.name == "check_prices":
        return shop.check_prices(singles[0], call.row)
    if call.name == "duality_gap":
        return shop.duality_gap(singles[0])
    if call.name == "min_shots_without":
        return shop.min_shots_without(singles[0])
    if call.name == "min_shots_if":
        return shop.min_shots_if(singles[0], singles[1])
    if call.name == "min_shots_with_only":
        return shop.min_shots_with_only(singles[0])
    return shop.describe()
