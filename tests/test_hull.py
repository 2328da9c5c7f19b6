import unittest

from desk_calls import ask, begins, border, hull, last


def bordered(zone_count, pairs):
    return [begins(zone_count)] + [border(i, j) for i, j in pairs]


class HullTest(unittest.TestCase):
    def test_of_no_zones(self):
        self.assertEqual(last(begins(1), hull([])), [0, 0])
        self.assertEqual(last(*bordered(3, [(0, 1)]), hull([])), [0, 0])

    def test_of_one_zone(self):
        for zone in range(8):
            self.assertEqual(last(begins(8), hull([zone])), [1, 1, zone])

    def test_zones_that_hang_together_are_their_own_hull(self):
        found = last(*bordered(4, [(3, 1), (1, 0), (0, 2)]), hull([3, 0, 1]))
        self.assertEqual(found, [3, 3, 0, 1, 3])

    def test_zones_are_told_rising_and_once(self):
        found = last(*bordered(3, [(0, 1), (1, 2)]), hull([2, 1, 2, 2, 1]))
        self.assertEqual(found, [2, 2, 1, 2])

    def test_zones_that_need_others_between_them(self):
        row = bordered(8, [(i, i + 1) for i in range(7)])
        self.assertEqual(last(*row, hull([0, 7])), [8, 8] + list(range(8)))
        self.assertEqual(last(*row, hull([2, 5])), [4, 4, 2, 3, 4, 5])
        self.assertEqual(last(*row, hull([6, 1, 3])), [6, 6, 1, 2, 3, 4, 5, 6])

    def test_one_zone_between_three_counts_once(self):
        star = bordered(5, [(4, 0), (4, 1), (4, 2), (4, 3)])
        self.assertEqual(last(*star, hull([0, 1, 2])), [4, 4, 0, 1, 2, 4])

    def test_the_fewest_zones(self):
        ring = bordered(6, [(i, (i + 1) % 6) for i in range(6)])
        self.assertEqual(last(*ring, hull([0, 2])), [3, 3, 0, 1, 2])
        self.assertEqual(last(*ring, hull([1, 5])), [3, 3, 0, 1, 5])

    def test_fewer_zones_stand_ahead_of_a_lesser_number(self):
        calls = bordered(6, [(0, 1), (1, 2), (2, 3), (0, 5), (5, 3)])
        self.assertEqual(last(*calls, hull([0, 3])), [3, 3, 0, 3, 5])

    def test_of_several_the_least_number(self):
        ring = bordered(6, [(i, (i + 1) % 6) for i in range(6)])
        self.assertEqual(last(*ring, hull([0, 3])), [4, 4, 0, 1, 2, 3])
        self.assertEqual(last(*ring, hull([2, 5])), [4, 4, 0, 1, 2, 5])
        self.assertEqual(last(*ring, hull([1, 4])), [4, 4, 1, 2, 3, 4])

    def test_the_number_counts_not_the_first_zone(self):
        # {1, 2, 6, 7} hangs together by 1 and 2, {0, 5, 6, 7} by 0 and 5: 198 is less than 225.
        calls = bordered(8, [(6, 1), (1, 2), (2, 7), (6, 0), (0, 5), (5, 7)])
        self.assertEqual(last(*calls, hull([6, 7])), [4, 4, 1, 2, 6, 7])

    def test_there_is_none(self):
        self.assertEqual(last(begins(2), hull([0, 1])), [-6])
        self.assertEqual(last(*bordered(4, [(0, 1), (2, 3)]), hull([0, 1, 2])), [-6])

    def test_a_zone_that_there_isnt(self):
        self.assertEqual(last(begins(3), hull([3])), [-1])
        self.assertEqual(last(begins(3), hull([0, 31])), [-1])
        self.assertEqual(last(begins(8), hull([8])), [-1])

    def test_no_such_zone_stands_ahead_of_no_hull(self):
        self.assertEqual(last(begins(3), hull([0, 1, 3])), [-1])

    def test_a_border_told_later_counts(self):
        found = ask(begins(3), hull([0, 1]), border(0, 2), border(2, 1), hull([0, 1]), border(0, 1), hull([0, 1]))
        self.assertEqual([found[1], found[4], found[6]], [[-6], [3, 3, 0, 1, 2], [2, 2, 0, 1]])

    def test_twenty_zones_told(self):
        self.assertEqual(last(*bordered(2, [(0, 1)]), hull([0, 1] * 10)), [2, 2, 0, 1])


if __name__ == "__main__":
    unittest.main()
