import unittest

from desk_calls import (
    HUGE, alone, any_product, ask, begins, cheap, drop, good, journey, last, told_product, without,
)

THREE = (
    begins(3),
    told_product([0], price=1), told_product([1], price=20), told_product([2], price=300),
    journey([0]), journey([1]), journey([2]),
)


class DropTest(unittest.TestCase):
    def test_no_such_journey(self):
        for k in (3, 4, HUGE):
            self.assertEqual(last(*THREE, drop(k)), [-2])
        self.assertEqual(last(begins(1), drop(0)), [-2])

    def test_all_is_as_it_was_behind_a_refusal(self):
        self.assertEqual(last(*THREE, drop(3), alone()), [321, 3, 1, 20, 300])

    def test_those_behind_move_up(self):
        self.assertEqual(ask(*THREE, drop(0), alone())[-2:], [[0], [320, 2, 20, 300]])
        self.assertEqual(ask(*THREE, drop(1), alone())[-2:], [[0], [301, 2, 1, 300]])
        self.assertEqual(ask(*THREE, drop(2), alone())[-2:], [[0], [21, 2, 1, 20]])

    def test_those_behind_move_up_in_cheap(self):
        self.assertEqual(last(*THREE, drop(0), cheap()), [320, 1, 1, 2, 1, 0, 2, 2, 1])
        self.assertEqual(last(*THREE, drop(1), cheap()), [301, 1, 1, 2, 0, 0, 2, 2, 1])

    def test_those_behind_move_up_in_good(self):
        found = ask(*THREE, drop(1), good(2, [1]), good(1, [1]), good(0, [0]), good(2, [2]))
        self.assertEqual(found[-4:], [[1], [0], [1], [-1]])

    def test_the_last_number_is_free_again(self):
        found = ask(*THREE, drop(0), drop(2), journey([0]), alone())
        self.assertEqual(found[-4:], [[0], [-2], [2], [321, 3, 20, 300, 1]])

    def test_there_is_room_again(self):
        full = [begins(1)] + [journey([0])] * 7
        self.assertEqual(ask(*full, journey([0]), drop(6), journey([0]))[-3:], [[-5], [0], [6]])

    def test_all_dropped(self):
        self.assertEqual(ask(*THREE, drop(0), drop(0), drop(0), drop(0), cheap())[-2:], [[-2], [0, 1, 1]])

    def test_products_stay(self):
        self.assertEqual(ask(*THREE, drop(0), good(0, [0]), good(1, [0]), any_product(1))[-3:], [[0], [1], [3]])


class WithoutTest(unittest.TestCase):
    def test_no_such_journey(self):
        for k in (3, 4, HUGE):
            self.assertEqual(last(*THREE, without(k)), [-2])
        self.assertEqual(last(begins(1), without(0)), [-2])

    def test_what_the_others_cost(self):
        found = ask(*THREE, without(0), without(1), without(2))
        self.assertEqual(found[-3:], [[320], [301], [21]])

    def test_the_only_journey(self):
        self.assertEqual(last(begins(1), journey([0]), without(0)), [0])

    def test_the_journey_is_still_there(self):
        self.assertEqual(last(*THREE, without(1), alone()), [321, 3, 1, 20, 300])

    def test_no_tickets_for_the_others(self):
        calls = [begins(2), told_product([0], price=5), journey([0]), journey([1])]
        self.assertEqual(ask(*calls, without(0), without(1))[-2:], [[-6], [5]])

    def test_no_such_journey_stands_ahead_of_no_tickets(self):
        self.assertEqual(last(begins(1), journey([0]), without(1)), [-2])

    def test_behind_a_drop(self):
        self.assertEqual(ask(*THREE, drop(0), without(0), without(1), without(2))[-3:], [[300], [20], [-2]])

    def test_journeys_together_are_the_cheapest(self):
        calls = [
            begins(1), any_product(1, price=10), any_product(1, price=15, persons=2),
            journey([0], person=0), journey([0], person=1), journey([0], person=2), cheap(),
        ]
        self.assertEqual(ask(*calls, without(0), without(1), without(2))[-3:], [[15]] * 3)

    def test_a_journey_that_only_rides_along_is_left_without_a_ticket(self):
        calls = [
            begins(1), any_product(1, price=4, minutes=200, closes=100),
            journey([0], first=50), journey([0], first=120),
        ]
        self.assertEqual(ask(*calls, without(0), without(1))[-2:], [[-6], [4]])


if __name__ == "__main__":
    unittest.main()
