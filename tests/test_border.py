import unittest

from desk_calls import HUGE, ask, begins, border, hull, last


class BorderTest(unittest.TestCase):
    def test_zones_border_both_ways_round(self):
        self.assertEqual(ask(begins(3), border(0, 2), hull([0, 2])), [[0], [0], [2, 2, 0, 2]])
        self.assertEqual(ask(begins(3), border(2, 0), hull([0, 2])), [[0], [0], [2, 2, 0, 2]])

    def test_a_row_of_borders_told_either_way_is_one_way_through(self):
        for pairs in ([(0, 1), (1, 2), (2, 3)], [(1, 0), (2, 1), (3, 2)], [(1, 0), (1, 2), (3, 2)]):
            with self.subTest(pairs):
                found = last(begins(4), *[border(i, j) for i, j in pairs], hull([0, 3]))
                self.assertEqual(found, [4, 4, 0, 1, 2, 3])

    def test_a_border_joins_no_other_pair(self):
        found = ask(begins(4), border(1, 2), hull([0, 1]), hull([2, 3]), hull([0, 3]), hull([1, 2]))
        self.assertEqual(found[2:], [[-6], [-6], [-6], [2, 2, 1, 2]])

    def test_a_zone_that_there_isnt(self):
        for i, j in ((3, 0), (0, 3), (3, 4), (HUGE, 0), (0, HUGE)):
            with self.subTest((i, j)):
                self.assertEqual(last(begins(3), border(i, j)), [-2])

    def test_the_last_zone_is_there(self):
        self.assertEqual(last(begins(8), border(0, 7)), [0])
        self.assertEqual(last(begins(8), border(0, 8)), [-2])

    def test_a_zone_with_itself(self):
        self.assertEqual(last(begins(3), border(2, 2)), [-3])
        self.assertEqual(last(begins(3), border(0, 0)), [-3])

    def test_zones_that_border_already(self):
        self.assertEqual(ask(begins(3), border(0, 1), border(0, 1)), [[0], [0], [-3]])
        self.assertEqual(ask(begins(3), border(0, 1), border(1, 0)), [[0], [0], [-3]])
        self.assertEqual(ask(begins(3), border(0, 1), border(0, 2), border(1, 2)), [[0]] * 4)

    def test_no_such_zone_stands_ahead_of_itself(self):
        self.assertEqual(last(begins(3), border(3, 3)), [-2])
        self.assertEqual(last(begins(3), border(HUGE, HUGE)), [-2])

    def test_all_is_as_it_was_behind_a_refusal(self):
        found = ask(begins(3), border(0, 1), border(1, 0), border(0, 3), border(2, 2), hull([0, 1]), hull([1, 2]))
        self.assertEqual(found[2:], [[-3], [-2], [-3], [2, 2, 0, 1], [-6]])


if __name__ == "__main__":
    unittest.main()
