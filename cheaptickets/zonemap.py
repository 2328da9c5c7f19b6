"""Zones that border on one another. A set of zones is one number, zone i counting 2^i."""


def number_of(members):
    number = 0
    for member in members:
        number = number | (1 << member)
    return number


def members_of(number):
    return [place for place in range(number.bit_length()) if (number >> place) & 1 == 1]


def size_of(number):
    return len(members_of(number))


def is_within(inner, outer):
    return (inner & outer) == inner


# One step goes from the zones reached to all that border on them, but never out of the set.
def widened(neighbours, reached, whole):
    wider = reached
    for zone in members_of(reached):
        wider = wider | (neighbours[zone] & whole)
    return wider


def hangs_together(neighbours, whole):
    reached = number_of(members_of(whole)[:1])
    wider = widened(neighbours, reached, whole)
    while wider != reached:
        reached = wider
        wider = widened(neighbours, reached, whole)
    return reached == whole


# Of as many zones the lesser number stays ahead, because sorted keeps the order of equals:
# so the first of these sets that has some zones is their hull.
def hanging_sets(neighbours):
    sets = [whole for whole in range(1 << len(neighbours)) if hangs_together(neighbours, whole)]
    return sorted(sets, key=size_of)


class ZoneMap:
    def __init__(self, zone_count):
        self.neighbours = [0] * zone_count
        self.hanging = hanging_sets(self.neighbours)

    def has_zones(self, zones):
        return all([zone < len(self.neighbours) for zone in zones])

    def has_border(self, i, j):
        return is_within(1 << j, self.neighbours[i])

    def add_border(self, i, j):
        self.neighbours[i] = self.neighbours[i] | (1 << j)
        self.neighbours[j] = self.neighbours[j] | (1 << i)
        self.hanging = hanging_sets(self.neighbours)

    def hull_of(self, zones):
        for candidate in self.hanging:
            if is_within(zones, candidate):
                return candidate
        return None
