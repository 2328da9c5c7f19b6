"""Holds cheap, alone, without, good and hull against a plain walk through all that there is."""

import itertools
import random
import unittest

from desk_calls import alone, any_product, ask, begins, border, cheap, good, hull, journey, told_product, without


def hang_together(zones, pairs):
    if not zones:
        return True
    reached = {min(zones)}
    for _ in zones:
        for i, j in pairs:
            if i in zones and j in zones and (i in reached or j in reached):
                reached |= {i, j}
    return reached == set(zones)


def plain_hull(zone_count, pairs, zones):
    for size in range(zone_count + 1):
        found = [
            sum(2 ** zone for zone in chosen)
            for chosen in itertools.combinations(range(zone_count), size)
            if set(zones) <= set(chosen) and hang_together(chosen, pairs)
        ]
        if found:
            return [zone for zone in range(zone_count) if min(found) >> zone & 1]
    return None


def plain_good(case, product, numbers):
    kind, zones, price, minutes, persons, opens, closes = product
    told = [case["journeys"][k] for k in numbers]
    begin = min(first for person, first, length, through in told)
    through = {zone for row in told for zone in row[3]}
    if len({row[0] for row in told}) > persons:
        return False
    if any(row[1] + row[2] > begin + minutes for row in told):
        return False
    if not opens <= begin % 1440 < closes:
        return False
    if kind == "told":
        return through <= set(zones)
    least = plain_hull(case["zone_count"], case["pairs"], through)
    return least is not None and len(least) <= zones


def partings(numbers):
    if not numbers:
        yield []
        return
    for size in range(len(numbers)):
        for others in itertools.combinations(numbers[1:], size):
            left = [k for k in numbers[1:] if k not in others]
            for rest in partings(left):
                yield [(numbers[0],) + others] + rest


def plain_ways(case, numbers):
    products = case["products"]
    fitting = {}
    for parting in partings(numbers):
        for part in parting:
            if part not in fitting:
                fitting[part] = [p for p, product in enumerate(products) if plain_good(case, product, part)]
        for chosen in itertools.product(*[fitting[part] for part in parting]):
            cost = sum(products[p][2] for p in chosen)
            yield cost, [(sum(2 ** k for k in part), p, part) for part, p in zip(parting, chosen)]


def plain_cheap(case, numbers):
    ways = list(plain_ways(case, numbers))
    if not ways:
        return [-6]
    least = min(cost for cost, tickets in ways)
    cheapest = [tickets for cost, tickets in ways if cost == least]
    answer = [least, 1, len(cheapest)]
    for number, product, part in min(cheapest):
        answer += [1 + len(part), product] + list(part)
    return answer


def plain_alone(case):
    costs = [plain_cheap(case, [k])[0] for k in range(len(case["journeys"]))]
    if -6 in costs:
        return [-6]
    return [sum(costs), len(costs)] + costs


def some_case(source):
    zone_count = source.randint(1, 6)
    pairs = [pair for pair in itertools.combinations(range(zone_count), 2) if source.random() < 0.45]
    some_zones = lambda most: [source.randrange(zone_count) for _ in range(source.randint(1, most))]
    products = []
    for _ in range(source.randint(1, 4)):
        kind = source.choice(["any", "told"])
        zones = source.randint(1, 6) if kind == "any" else some_zones(8)
        opens = source.choice([0, 0, 0, 20])
        products.append((
            kind, zones, source.randint(0, 4), source.choice([20, 60, 1500]), source.randint(1, 4),
            opens, source.choice([opens + 30, 1440]),
        ))
    journeys = [
        (source.randrange(4), source.choice([0, 1440]) + source.randrange(60), source.randrange(25), some_zones(3))
        for _ in range(source.randint(0, 5))
    ]
    return {"zone_count": zone_count, "pairs": pairs, "products": products, "journeys": journeys}


def calls_of(case):
    calls = [begins(case["zone_count"])] + [border(i, j) for i, j in case["pairs"]]
    for kind, zones, *numbers in case["products"]:
        calls.append(any_product(zones, *numbers) if kind == "any" else told_product(zones, *numbers))
    for person, first, minutes, zones in case["journeys"]:
        calls.append(journey(zones, person, first, minutes))
    return calls


class AllWaysTest(unittest.TestCase):
    def test_many_desks(self):
        source = random.Random(7)
        seen = {"found": 0, "none": 0, "several": 0}
        for turn in range(400):
            case = some_case(source)
            calls = calls_of(case)
            numbers = list(range(len(case["journeys"])))
            found = ask(*calls, cheap(), alone(), *[without(k) for k in numbers])[len(calls):]
            expected = [plain_cheap(case, numbers), plain_alone(case)]
            expected += [plain_cheap(case, [other for other in numbers if other != k])[:1] for k in numbers]
            self.assertEqual(found, expected, case)
            seen["none" if found[0] == [-6] else "found"] += 1
            seen["several"] += len(found[0]) > 2 and found[0][2] > 1
        self.assertGreater(min(seen.values()), 40, seen)

    def test_good_of_many_desks(self):
        source = random.Random(8)
        for turn in range(200):
            case = some_case(source)
            calls = calls_of(case)
            numbers = range(len(case["journeys"]))
            asked = [(p, part) for p in range(len(case["products"])) for part in (
                part for size in numbers for part in itertools.combinations(numbers, size + 1)
            )]
            asked = source.sample(asked, min(8, len(asked)))
            found = ask(*calls, *[good(p, part) for p, part in asked])[len(calls):]
            expected = [[int(plain_good(case, case["products"][p], part))] for p, part in asked]
            self.assertEqual(found, expected, (case, asked))

    def test_hull_of_many_maps(self):
        source = random.Random(9)
        for turn in range(150):
            zone_count = source.randint(1, 8)
            pairs = [pair for pair in itertools.combinations(range(zone_count), 2) if source.random() < 0.3]
            calls = [begins(zone_count)] + [border(*source.sample(pair, 2)) for pair in pairs]
            rows = [[source.randrange(zone_count) for _ in range(source.randint(0, 4))] for _ in range(6)]
            found = ask(*calls, *[hull(row) for row in rows])[len(calls):]
            plain = [plain_hull(zone_count, pairs, row) for row in rows]
            expected = [[-6] if zones is None else [len(zones), len(zones)] + zones for zones in plain]
            self.assertEqual(found, expected, (pairs, rows))


if __name__ == "__main__":
    unittest.main()
