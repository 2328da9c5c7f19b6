import unittest

from desk_calls import (
    HUGE, alone, any_product, ask, begins, border, cheap, good, hull, journey, last, told_product,
)


class BeginsTest(unittest.TestCase):
    def test_one_to_eight_zones(self):
        for zone_count in range(1, 9):
            with self.subTest(zone_count):
                self.assertEqual(last(begins(zone_count)), [0])

    def test_there_are_just_so_many_zones(self):
        for zone_count in range(1, 9):
            with self.subTest(zone_count):
                found = ask(begins(zone_count), hull([zone_count - 1]), hull([zone_count]))
                self.assertEqual(found[1:], [[1, 1, zone_count - 1], [-1]])

    def test_other_numbers_are_refused(self):
        for zone_count in (0, 9, 10, HUGE):
            with self.subTest(zone_count):
                self.assertEqual(last(begins(zone_count)), [-1])
                self.assertEqual(last(begins(3), begins(zone_count)), [-1])

    def test_no_zones_border_at_first(self):
        calls = [begins(8)]
        pairs = [(i, j) for i in range(8) for j in range(i)]
        found = ask(*calls, *[hull(pair) for pair in pairs])
        self.assertEqual(found, [[0]] + [[-6]] * 28)

    def test_all_is_as_it_was_behind_a_refusal(self):
        for zone_count in (0, 9, HUGE):
            with self.subTest(zone_count):
                found = ask(
                    begins(3), border(0, 1), any_product(2, price=7), journey([0, 1]),
                    begins(zone_count),
                    hull([0, 1]), hull([2]), hull([3]), good(0, [0]), cheap(),
                )
                self.assertEqual(found[4:], [[-1], [2, 2, 0, 1], [1, 1, 2], [-1], [1], [7, 1, 1, 2, 0, 0]])

    def test_a_second_begins_takes_all_away(self):
        found = ask(
            begins(2), border(0, 1), told_product([0, 1]), journey([0, 1]),
            begins(2),
            hull([0, 1]), good(0, [0]), cheap(), alone(), border(1, 0), any_product(1), journey([0]),
        )
        self.assertEqual(found[4:], [[0], [-6], [-2], [0, 1, 1], [0, 0], [0], [0], [0]])

    def test_a_second_begins_may_have_more_or_fewer_zones(self):
        self.assertEqual(ask(begins(2), begins(8), hull([7]))[1:], [[0], [1, 1, 7]])
        self.assertEqual(ask(begins(8), begins(2), hull([2]))[1:], [[0], [-1]])


if __name__ == "__main__":
    unittest.main()
