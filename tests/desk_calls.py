"""Writes calls as lists of numbers, and reads the answers call by call."""

from cheaptickets.tickets import answers


def counted(numbers):
    return [len(numbers)] + list(numbers)


def begins(zone_count):
    return [0, zone_count]


def border(i, j):
    return [1, i, j]


def any_product(n, price=10, minutes=60, persons=1, opens=0, closes=1440):
    return [2, 0, n, price, minutes, persons, opens, closes]


def told_product(zones, price=10, minutes=60, persons=1, opens=0, closes=1440):
    return [2, 1] + counted(zones) + [price, minutes, persons, opens, closes]


def journey(zones, person=0, first=0, minutes=10):
    return [3, person, first, minutes] + counted(zones)


def drop(k):
    return [4, k]


def hull(zones):
    return [5] + counted(zones)


def good(product, journeys):
    return [6, product] + counted(journeys)


def cheap():
    return [7]


def alone():
    return [8]


def without(k):
    return [9, k]


def line_of(calls):
    line = []
    for call in calls:
        line += [0] + counted(call)
    return line


def split_answers(numbers):
    found = []
    place = 0
    while place < len(numbers):
        end = place + 1 + numbers[place]
        found.append(numbers[place + 1:end])
        place = end
    return found


def ask(*calls):
    return split_answers(answers(line_of(calls)))


def last(*calls):
    return ask(*calls)[-1]


HUGE = 4294967295
