import time
import unittest

from desk_calls import (
    alone, any_product, ask, begins, border, cheap, drop, good, journey, last, told_product, without,
)


class CheapTest(unittest.TestCase):
    def test_without_journeys(self):
        self.assertEqual(last(begins(1), cheap()), [0, 1, 1])
        self.assertEqual(last(begins(1), any_product(1), cheap()), [0, 1, 1])

    def test_one_journey(self):
        calls = [begins(1), any_product(1, price=30), any_product(1, price=20), journey([0])]
        self.assertEqual(last(*calls, cheap()), [20, 1, 1, 2, 1, 0])

    def test_a_free_ticket(self):
        calls = [begins(1), any_product(1, price=0), journey([0])]
        self.assertEqual(last(*calls, cheap()), [0, 1, 1, 2, 0, 0])

    def test_one_ticket_for_several_journeys(self):
        calls = [begins(1), any_product(1, price=30), journey([0]), journey([0]), journey([0])]
        self.assertEqual(last(*calls, cheap()), [30, 1, 1, 4, 0, 0, 1, 2])

    def test_several_tickets_where_they_cost_less(self):
        calls = [
            begins(2), told_product([0], price=3), told_product([1], price=4), told_product([0, 1], price=8),
            journey([0]), journey([1]),
        ]
        self.assertEqual(last(*calls, cheap()), [7, 1, 1, 2, 0, 0, 2, 1, 1])

    def test_one_ticket_where_it_costs_less(self):
        calls = [
            begins(2), told_product([0], price=3), told_product([1], price=4), told_product([0, 1], price=6),
            journey([0]), journey([1]),
        ]
        self.assertEqual(last(*calls, cheap()), [6, 1, 1, 3, 2, 0, 1])

    def test_products_of_one_price_are_ways_and_the_lesser_is_the_earlier(self):
        calls = [
            begins(1), any_product(1, price=9), any_product(1, price=5), any_product(1, price=5),
            any_product(1, price=5, persons=2), journey([0]),
        ]
        self.assertEqual(last(*calls, cheap()), [5, 1, 3, 2, 1, 0])

    def test_ways_of_one_price_by_other_journeys(self):
        # Three persons, two of them on one ticket: {0} {1,2}, {0,1} {2}, {0,2} {1}.
        calls = [
            begins(1), any_product(1, price=10, persons=2),
            journey([0], person=0), journey([0], person=1), journey([0], person=2),
        ]
        self.assertEqual(last(*calls, cheap()), [20, 1, 3, 2, 0, 0, 3, 0, 1, 2])

    def test_pairs_on_tickets_of_one_product_are_three_ways(self):
        calls = [begins(1), any_product(1, price=10, persons=2)]
        calls += [journey([0], person=person) for person in range(4)]
        self.assertEqual(last(*calls, cheap()), [20, 1, 3, 3, 0, 0, 1, 3, 0, 2, 3])

    def test_the_lesser_set_counts_ahead_of_the_lesser_product(self):
        # {0} by product 1 and {1} by product 1, or both by product 0: as much, and {0} is less than {0,1}.
        calls = [
            begins(1), any_product(1, price=10, persons=2), any_product(1, price=5),
            journey([0], person=0), journey([0], person=1),
        ]
        self.assertEqual(last(*calls, cheap()), [10, 1, 2, 2, 1, 0, 2, 1, 1])

    def test_the_set_counts_by_its_number(self):
        # {0,1,2} {3} is 7 and then 8, {0,3} {1,2} is 9 and then 6: 7 is less than 9.
        # Two products are good for {3}, the first and the last, and two for {1,2}.
        calls = [
            begins(4), told_product([0, 3], price=5), told_product([0, 1, 2], price=5),
            told_product([1, 2], price=5), told_product([3], price=5),
            journey([0]), journey([1]), journey([2]), journey([3]),
        ]
        self.assertEqual(last(*calls, cheap()), [10, 1, 4, 4, 1, 0, 1, 2, 2, 0, 3])

    def test_the_second_ticket_tells_where_the_first_is_the_same(self):
        # {0} is alike in all; then {1} {2} is ahead of {1,2}.
        calls = [
            begins(2), told_product([0], price=1), told_product([1], price=6, persons=2),
            told_product([1], price=3),
            journey([0], person=0), journey([1], person=1), journey([1], person=2),
        ]
        self.assertEqual(last(*calls, cheap()), [7, 1, 2, 2, 0, 0, 2, 2, 1, 2, 2, 2])

    def test_an_order_of_tickets_is_no_other_way(self):
        calls = [begins(1), any_product(1, price=4), journey([0], person=0), journey([0], person=1)]
        self.assertEqual(last(*calls, cheap()), [8, 1, 1, 2, 0, 0, 2, 0, 1])

    def test_ways_of_several_tickets_are_multiplied(self):
        calls = [
            begins(2), told_product([0], price=2), told_product([0], price=2), told_product([0], price=2),
            told_product([1], price=2), told_product([1], price=2), journey([0]), journey([1]),
        ]
        self.assertEqual(last(*calls, cheap()), [4, 1, 6, 2, 0, 0, 2, 3, 1])

    def test_tickets_stand_in_order_of_their_first_journeys(self):
        calls = [
            begins(2), told_product([0], price=2), told_product([1], price=3),
            journey([1]), journey([0]), journey([1]), journey([0]),
        ]
        self.assertEqual(last(*calls, cheap()), [5, 1, 1, 3, 1, 0, 2, 3, 0, 1, 3])

    def test_free_tickets_make_every_parting_a_way(self):
        calls = [begins(1), any_product(1, price=0)] + [journey([0])] * 7
        tickets = [2, 0, 0, 2, 0, 1, 2, 0, 2, 2, 0, 3, 2, 0, 4, 2, 0, 5, 2, 0, 6]
        self.assertEqual(last(*calls, cheap()), [0, 1, 877] + tickets)

    def test_for_some_journey_there_is_no_ticket(self):
        calls = [begins(2), told_product([0], price=5), journey([0])]
        self.assertEqual(last(*calls, journey([1]), cheap()), [-6])
        self.assertEqual(last(begins(1), journey([0]), cheap()), [-6])
        self.assertEqual(last(*calls, journey([1]), drop(1), cheap()), [5, 1, 1, 2, 0, 0])

    def test_a_journey_may_need_an_earlier_one_on_its_ticket(self):
        calls = [
            begins(1), any_product(1, price=4, minutes=200, closes=100),
            journey([0], first=120), journey([0], first=50),
        ]
        self.assertEqual(ask(*calls, cheap(), alone())[-2:], [[4, 1, 1, 3, 0, 0, 1], [-6]])

    def test_each_journey_has_a_ticket_but_not_all_at_once(self):
        # Journeys 1 and 2 can each ride along with journey 0 alone, for two persons: not both.
        calls = [
            begins(1), any_product(1, minutes=200, persons=2, closes=100), journey([0], person=0, first=50),
            journey([0], person=1, first=120), journey([0], person=2, first=120),
        ]
        found = ask(*calls, good(0, [0, 1]), good(0, [0, 2]), cheap(), without(1), without(2))
        self.assertEqual(found[-5:], [[1], [1], [-6], [10], [10]])

    def test_nothing_is_changed_by_asking(self):
        calls = [begins(1), any_product(1, price=10, persons=2), journey([0]), journey([0], person=1)]
        found = ask(*calls, cheap(), alone(), without(0), cheap(), alone(), without(0))
        self.assertEqual(found[4:7], found[7:])

    def test_the_dearest(self):
        calls = [begins(1), any_product(1, price=1000000)]
        calls += [journey([0], person=person) for person in range(7)]
        tickets = []
        for person in range(7):
            tickets += [2, 0, person]
        found = ask(*calls, cheap(), alone(), without(3))
        self.assertEqual(found[-3:], [[7000000, 1, 1] + tickets, [7000000, 7] + [1000000] * 7, [6000000]])


class AloneTest(unittest.TestCase):
    def test_without_journeys(self):
        self.assertEqual(last(begins(1), alone()), [0, 0])

    def test_each_by_itself(self):
        calls = [
            begins(2), told_product([0], price=7), told_product([0, 1], price=9), told_product([0], price=8),
            journey([1]), journey([0]), journey([0, 1]),
        ]
        self.assertEqual(ask(*calls, alone(), cheap())[-2:], [[25, 3, 9, 7, 9], [9, 1, 1, 4, 1, 0, 1, 2]])

    def test_for_some_journey_there_is_no_ticket(self):
        calls = [begins(2), told_product([0]), journey([0]), journey([1])]
        self.assertEqual(last(*calls, alone()), [-6])
        self.assertEqual(last(begins(1), journey([0]), alone()), [-6])

    def test_only_good_products_count(self):
        calls = [
            begins(2), border(0, 1), any_product(1, price=1), any_product(2, price=2, minutes=9),
            any_product(2, price=3, opens=1), any_product(2, price=4), journey([0, 1]),
        ]
        self.assertEqual(last(*calls, alone()), [4, 1, 4])


class TimeTest(unittest.TestCase):
    def test_a_full_line_of_forty_calls(self):
        calls = [begins(8)] + [border(i, i + 1) for i in range(7)]
        calls += [any_product(8, price=1, minutes=1000000, persons=9)] * 8
        calls += [journey([k, k + 1], person=k, first=k) for k in range(7)]
        calls += [cheap()] * 9 + [without(3)] * 8
        self.assertEqual(len(calls), 40)
        began = time.monotonic()
        found = ask(*calls)
        self.assertLess(time.monotonic() - began, 20)
        self.assertEqual(found[23:], [[1, 1, 8, 8, 0, 0, 1, 2, 3, 4, 5, 6]] * 9 + [[1]] * 8)


if __name__ == "__main__":
    unittest.main()
