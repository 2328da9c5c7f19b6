import unittest

from desk_calls import (
    HUGE, alone, any_product, ask, begins, border, cheap, good, journey, last, told_product,
)


class ProductTest(unittest.TestCase):
    def check(self, product, answer):
        self.assertEqual(last(begins(3), product), answer, product)

    def test_products_are_numbered_from_0(self):
        found = ask(begins(3), any_product(1), told_product([0, 2]), any_product(8))
        self.assertEqual(found, [[0], [0], [1], [2]])

    def test_any_n(self):
        for n in range(1, 9):
            self.check(any_product(n), [0])
        for n in (0, 9, HUGE):
            self.check(any_product(n), [-1])

    def test_told_zones(self):
        self.check(told_product([0]), [0])
        self.check(told_product([2, 0]), [0])
        self.check(told_product([2, 1, 0]), [0])

    def test_no_zones(self):
        self.check(told_product([]), [-1])

    def test_a_zone_that_there_isnt(self):
        self.check(told_product([3]), [-1])
        self.check(told_product([0, 1, 31]), [-1])
        self.check(told_product([31, 0]), [-1])

    def test_a_zone_that_stands_twice_counts_once(self):
        found = ask(
            begins(3), told_product([0, 2, 0, 2, 2]), journey([0]), journey([1]), journey([2]),
            good(0, [0]), good(0, [1]), good(0, [2]),
        )
        self.assertEqual(found[1:], [[0], [0], [1], [2], [1], [0], [1]])
        self.check(told_product([1] * 20), [0])

    def test_price(self):
        for make in (lambda price: any_product(1, price=price), lambda price: told_product([0], price=price)):
            for price in (0, 1, 1000000):
                self.check(make(price), [0])
            for price in (1000001, HUGE):
                self.check(make(price), [-1])

    def test_minutes(self):
        for minutes in (1, 1440, 1441, 1000000):
            self.check(any_product(1, minutes=minutes), [0])
        for minutes in (0, 1000001, HUGE):
            self.check(any_product(1, minutes=minutes), [-1])
            self.check(told_product([0], minutes=minutes), [-1])

    def test_persons(self):
        for persons in range(1, 10):
            self.check(any_product(1, persons=persons), [0])
        for persons in (0, 10, HUGE):
            self.check(any_product(1, persons=persons), [-1])
            self.check(told_product([0], persons=persons), [-1])

    def test_minutes_of_a_day(self):
        for opens, closes in ((0, 1), (0, 1440), (1439, 1440), (539, 540)):
            self.check(any_product(1, opens=opens, closes=closes), [0])
        for opens, closes in ((0, 0), (540, 540), (541, 540), (0, 1441), (1440, 1440), (1440, 1441), (0, HUGE)):
            self.check(any_product(1, opens=opens, closes=closes), [-1])
            self.check(told_product([0], opens=opens, closes=closes), [-1])

    def test_eight_products_and_no_ninth(self):
        full = [begins(3)] + [any_product(1)] * 8
        self.assertEqual(ask(*full), [[0]] + [[k] for k in range(8)])
        self.assertEqual(last(*full, any_product(1)), [-5])
        self.assertEqual(last(*full, told_product([0])), [-5])

    def test_not_as_told_stands_ahead_of_no_room(self):
        full = [begins(3)] + [any_product(1)] * 8
        wrong = (
            any_product(0), any_product(9), told_product([]), told_product([3]), any_product(1, price=1000001),
            any_product(1, minutes=0), any_product(1, persons=10), any_product(1, opens=7, closes=7),
            any_product(1, closes=1441),
        )
        for product in wrong:
            self.assertEqual(last(*full, product), [-1], product)

    def test_all_is_as_it_was_behind_a_refusal(self):
        found = ask(
            begins(3), any_product(1, price=9), journey([0]),
            any_product(0, price=1), told_product([3], price=1), any_product(1, price=1, persons=0),
            good(1, [0]), cheap(), told_product([0], price=8), cheap(),
        )
        self.assertEqual(found[3:], [[-1], [-1], [-1], [-2], [9, 1, 1, 2, 0, 0], [1], [8, 1, 1, 2, 1, 0]])

    def test_a_ninth_product_is_not_there(self):
        full = [begins(3), journey([0])] + [any_product(1, price=9)] * 8
        found = ask(*full, any_product(1, price=1), good(8, [0]), alone())
        self.assertEqual(found[-3:], [[-5], [-2], [9, 1, 9]])


class JourneyTest(unittest.TestCase):
    def check(self, told, answer):
        self.assertEqual(last(begins(3), told), answer, told)

    def test_journeys_are_numbered_from_0(self):
        self.assertEqual(ask(begins(3), journey([0]), journey([0]), journey([2, 1])), [[0], [0], [1], [2]])

    def test_person(self):
        for person in range(10):
            self.check(journey([0], person=person), [0])
        for person in (10, HUGE):
            self.check(journey([0], person=person), [-1])

    def test_first_minute(self):
        for first in (0, 1, 1440, 1000000):
            self.check(journey([0], first=first), [0])
        for first in (1000001, HUGE):
            self.check(journey([0], first=first), [-1])

    def test_minutes(self):
        for minutes in (0, 1, 1440):
            self.check(journey([0], minutes=minutes), [0])
        for minutes in (1441, HUGE):
            self.check(journey([0], minutes=minutes), [-1])

    def test_zones(self):
        self.check(journey([2]), [0])
        self.check(journey([2, 0]), [0])
        self.check(journey([]), [-1])
        self.check(journey([3]), [-1])
        self.check(journey([0, 31]), [-1])
        self.check(journey([31, 0]), [-1])

    def test_a_zone_that_stands_twice_counts_once(self):
        found = ask(
            begins(3), border(0, 1), journey([1, 0, 1, 1]), any_product(2), any_product(1),
            told_product([0, 1]), told_product([1, 2]), good(0, [0]), good(1, [0]), good(2, [0]), good(3, [0]),
        )
        self.assertEqual(found[-4:], [[1], [0], [1], [0]])
        self.check(journey([1] * 20), [0])

    def test_seven_journeys_and_no_eighth(self):
        full = [begins(3)] + [journey([0])] * 7
        self.assertEqual(ask(*full), [[0]] + [[k] for k in range(7)])
        self.assertEqual(last(*full, journey([0])), [-5])

    def test_not_as_told_stands_ahead_of_no_room(self):
        full = [begins(3)] + [journey([0])] * 7
        wrong = (
            journey([]), journey([3]), journey([0], person=10), journey([0], first=1000001),
            journey([0], minutes=1441),
        )
        for told in wrong:
            self.assertEqual(last(*full, told), [-1], told)

    def test_all_is_as_it_was_behind_a_refusal(self):
        found = ask(
            begins(3), any_product(1, price=9), journey([0]),
            journey([]), journey([3]), journey([0], person=10), alone(), good(0, [1]), journey([1]), alone(),
        )
        self.assertEqual(found[3:], [[-1], [-1], [-1], [9, 1, 9], [-1], [1], [18, 2, 9, 9]])

    def test_an_eighth_journey_is_not_there(self):
        full = [begins(3), any_product(1, price=9)] + [journey([0])] * 7
        found = ask(*full, journey([0]), good(0, [7]), alone())
        self.assertEqual(found[-3:], [[-5], [-1], [63, 7] + [9] * 7])


if __name__ == "__main__":
    unittest.main()
