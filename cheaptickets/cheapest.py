"""The cheapest tickets for journeys. A set of journeys is one number, journey i counting 2^i."""

from cheaptickets.group import Group, is_good
from cheaptickets.zonemap import is_within, members_of


# The cheapest single ticket for a set: its price, how many products have it at that price,
# and the least of these.
class Offer:
    def __init__(self, price, product_count, product):
        self.price = price
        self.product_count = product_count
        self.product = product


# The cheapest tickets for a set: what they cost, in how many ways, and the earliest way's
# tickets, each as its product and its set of journeys.
class Plan:
    def __init__(self, cost, ways, tickets):
        self.cost = cost
        self.ways = ways
        self.tickets = tickets


def offer_for(desk, part):
    group = Group(desk.zone_map, [desk.journeys[place] for place in members_of(part)])
    places = [place for place, product in enumerate(desk.products) if is_good(product, group)]
    if places == []:
        return None
    price = min([desk.products[place].price for place in places])
    cheapest = [place for place in places if desk.products[place].price == price]
    return Offer(price, len(cheapest), cheapest[0])


# The ticket of the first journey is the first one of a way, so ways are told apart by it first.
# The parts rise: a later one of the same cost is a later way.
def parts_with_first(whole):
    first = 1 << members_of(whole)[0]
    return [part for part in range(first, whole + 1) if is_within(first, part) and is_within(part, whole)]


def plan_for(whole, offers, plans):
    best = None
    for part in parts_with_first(whole):
        offer = offers[part]
        rest = plans[whole - part]
        if offer is not None and rest is not None:
            cost = offer.price + rest.cost
            ways = offer.product_count * rest.ways
            if best is None or cost < best.cost:
                best = Plan(cost, ways, [(offer.product, part)] + rest.tickets)
            elif cost == best.cost:
                best.ways = best.ways + ways
    return best


# Each set of journeys at its number; None where there are no tickets for all of it.
def plans_for(desk):
    offers = [None]
    plans = [Plan(0, 1, [])]
    for whole in range(1, 1 << len(desk.journeys)):
        offers.append(offer_for(desk, whole))
        plans.append(plan_for(whole, offers, plans))
    return plans
