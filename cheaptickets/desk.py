"""What a desk has: its zones, its products, its journeys."""

from cheaptickets.zonemap import ZoneMap


class Product:
    # most_zones is n for any n zones, and None where the zones are told.
    def __init__(self, most_zones, zones, numbers):
        self.most_zones = most_zones
        self.zones = zones
        self.price = numbers[0]
        self.minutes = numbers[1]
        self.persons = numbers[2]
        self.opens = numbers[3]
        self.closes = numbers[4]


class Journey:
    def __init__(self, person, first, minutes, zones):
        self.person = person
        self.first = first
        self.minutes = minutes
        self.zones = zones


class Desk:
    def __init__(self):
        self.zone_map = ZoneMap(0)
        self.products = []
        self.journeys = []
