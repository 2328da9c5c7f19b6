"""The calls on one desk, and their answers."""

from cheaptickets.cheapest import offer_for, plans_for
from cheaptickets.desk import Desk, Journey, Product
from cheaptickets.group import Group, is_good
from cheaptickets.zonemap import ZoneMap, members_of, number_of, size_of

NOT_AS_TOLD = -1
NOT_THERE = -2
NO_NEW_BORDER = -3
DESK_FULL = -5
NONE_FOUND = -6

MOST_ZONES = 8
MOST_PRODUCTS = 8
MOST_JOURNEYS = 7
MOST_PRICE = 1000000
MOST_PRODUCT_MINUTES = 1000000
MOST_PERSONS = 9
DAY_END = 1440
LAST_PERSON = 9
LAST_FIRST_MINUTE = 1000000
MOST_JOURNEY_MINUTES = 1440


def list_at(told, place):
    start = place + 1
    return told[start:start + told[place]]


def with_lists(number, rows):
    numbers = [number]
    for row in rows:
        numbers.append(len(row))
        numbers.extend(row)
    return numbers


def call_begins(desk, told):
    if told[0] < 1 or told[0] > MOST_ZONES:
        return [NOT_AS_TOLD]
    desk.zone_map = ZoneMap(told[0])
    desk.products = []
    desk.journeys = []
    return [0]


def call_border(desk, told):
    i = told[0]
    j = told[1]
    if not desk.zone_map.has_zones([i, j]):
        return [NOT_THERE]
    if i == j or desk.zone_map.has_border(i, j):
        return [NO_NEW_BORDER]
    desk.zone_map.add_border(i, j)
    return [0]


def are_some_zones(desk, zones):
    return zones != [] and desk.zone_map.has_zones(zones)


# price, minutes, persons, from, up to
def are_product_numbers(numbers):
    if numbers[0] > MOST_PRICE:
        return False
    if numbers[1] < 1 or numbers[1] > MOST_PRODUCT_MINUTES:
        return False
    if numbers[2] < 1 or numbers[2] > MOST_PERSONS:
        return False
    return numbers[3] < numbers[4] and numbers[4] <= DAY_END


def call_product(desk, told):
    most_zones = None
    zones = []
    if told[0] == 0:
        most_zones = told[1]
        zones_right = 1 <= most_zones and most_zones <= MOST_ZONES
    else:
        zones = list_at(told, 1)
        zones_right = are_some_zones(desk, zones)
    numbers = told[len(told) - 5:]
    if not zones_right or not are_product_numbers(numbers):
        return [NOT_AS_TOLD]
    if len(desk.products) >= MOST_PRODUCTS:
        return [DESK_FULL]
    desk.products.append(Product(most_zones, number_of(zones), numbers))
    return [len(desk.products) - 1]


def call_journey(desk, told):
    person = told[0]
    first = told[1]
    minutes = told[2]
    zones = list_at(told, 3)
    if person > LAST_PERSON or first > LAST_FIRST_MINUTE or minutes > MOST_JOURNEY_MINUTES:
        return [NOT_AS_TOLD]
    if not are_some_zones(desk, zones):
        return [NOT_AS_TOLD]
    if len(desk.journeys) >= MOST_JOURNEYS:
        return [DESK_FULL]
    desk.journeys.append(Journey(person, first, minutes, number_of(zones)))
    return [len(desk.journeys) - 1]


def call_drop(desk, told):
    if told[0] >= len(desk.journeys):
        return [NOT_THERE]
    desk.journeys.pop(told[0])
    return [0]


def call_hull(desk, told):
    zones = list_at(told, 0)
    if not desk.zone_map.has_zones(zones):
        return [NOT_AS_TOLD]
    hull = desk.zone_map.hull_of(number_of(zones))
    if hull is None:
        return [NONE_FOUND]
    return with_lists(size_of(hull), [members_of(hull)])


# Places that rise are as they stand when each is taken once and put in order.
def are_some_journeys(desk, places):
    if places == [] or places != sorted(set(places)):
        return False
    return places[-1] < len(desk.journeys)


def call_good(desk, told):
    places = list_at(told, 1)
    if told[0] >= len(desk.products):
        return [NOT_THERE]
    if not are_some_journeys(desk, places):
        return [NOT_AS_TOLD]
    group = Group(desk.zone_map, [desk.journeys[place] for place in places])
    if is_good(desk.products[told[0]], group):
        return [1]
    return [0]


def call_cheap(desk, told):
    plan = plans_for(desk)[-1]
    if plan is None:
        return [NONE_FOUND]
    rows = [[ticket[0]] + members_of(ticket[1]) for ticket in plan.tickets]
    return with_lists(plan.cost, [[plan.ways]] + rows)


def call_alone(desk, told):
    offers = [offer_for(desk, 1 << place) for place in range(len(desk.journeys))]
    if any([offer is None for offer in offers]):
        return [NONE_FOUND]
    prices = [offer.price for offer in offers]
    return with_lists(sum(prices), [prices])


def call_without(desk, told):
    if told[0] >= len(desk.journeys):
        return [NOT_THERE]
    plans = plans_for(desk)
    plan = plans[len(plans) - 1 - (1 << told[0])]
    if plan is None:
        return [NONE_FOUND]
    return [plan.cost]


# Each call stands at its number.
CALLS = (
    call_begins,
    call_border,
    call_product,
    call_journey,
    call_drop,
    call_hull,
    call_good,
    call_cheap,
    call_alone,
    call_without,
)


# A row of calls: 0, how many numbers the call has, and these.
def answers(calls):
    desk = Desk()
    numbers = []
    place = 0
    while place < len(calls):
        call = list_at(calls, place + 1)
        answer = CALLS[call[0]](desk, call[1:])
        numbers.append(len(answer))
        numbers.extend(answer)
        place = place + 2 + len(call)
    return numbers
