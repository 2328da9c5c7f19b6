"""When one ticket of a product is good for some journeys."""

from cheaptickets.zonemap import is_within, size_of

DAY = 1440


# What a ticket has to meet, taken together once, because every product is asked about it.
class Group:
    def __init__(self, zone_map, journeys):
        zones = 0
        for journey in journeys:
            zones = zones | journey.zones
        self.zones = zones
        self.hull = zone_map.hull_of(zones)
        self.person_count = len(set([journey.person for journey in journeys]))
        self.begin = min([journey.first for journey in journeys])
        self.end = max([journey.first + journey.minutes for journey in journeys])


def zones_fit(product, group):
    if product.most_zones is None:
        return is_within(group.zones, product.zones)
    return group.hull is not None and size_of(group.hull) <= product.most_zones


def is_good(product, group):
    begin_in_day = group.begin % DAY
    if group.person_count > product.persons:
        return False
    if group.end > group.begin + product.minutes:
        return False
    if begin_in_day < product.opens or begin_in_day >= product.closes:
        return False
    return zones_fit(product, group)
