"""The interface: answers(calls) carries out one request."""

from mouldorders.reading import read_calls
from mouldorders.refusals import NO_INSTANCE
from mouldorders.shop import Shop


def answers(calls):
    shop = None
    given = []
    for call in read_calls(calls):
        if call.name == "create":
            shop = Shop()
            answer = [0]
        elif shop is None:
            answer = [NO_INSTANCE]
        else:
            answer = answer_of(shop, call)
        given.append(len(answer))
        given.extend(answer)
    return given


def answer_of(shop, call):
    singles = call.singles
    if call.name == "add_mould":
        return shop.add_mould(singles)
    if call.name == "remove_mould":
        return shop.remove_mould(singles[0])
    if call.name == "set_mould":
        return shop.set_mould(singles[0], singles[1:])
    if call.name == "set_demand":
        return shop.set_demand(singles[0], singles[1])
    if call.name == "set_all_demand":
        return shop.set_all_demand(call.row)
    if call.name == "min_shots":
        return shop.min_shots()
    if call.name == "best_plan":
        return shop.best_plan()
    return shop.surplus()
