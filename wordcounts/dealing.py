"""Weights dealt to hands, each to one, in the best way."""


def all_deals(how_many, hands):
    # Longer by one hand at a time, so that they stand in the order in which the first is taken.
    deals = [()]
    for k in range(how_many):
        longer = []
        for deal in deals:
            longer.extend([deal + (hand,) for hand in range(hands)])
        deals = longer
    return deals


def loads_of(deal, weights, hands):
    loads = [0] * hands
    for k in range(len(deal)):
        loads[deal[k]] = loads[deal[k]] + weights[k]
    return loads


def is_better(loads, others):
    if max(loads) != max(others):
        return max(loads) < max(others)
    return min(loads) > min(others)


def best_deal(weights, hands):
    deals = all_deals(len(weights), hands)
    best = deals[0]
    best_loads = loads_of(best, weights, hands)
    for deal in deals:
        loads = loads_of(deal, weights, hands)
        if is_better(loads, best_loads):
            best = deal
            best_loads = loads
    return best
