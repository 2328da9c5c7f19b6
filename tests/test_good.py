import unittest

from desk_calls import HUGE, any_product, ask, begins, border, good, journey, last, told_product


class RefusalTest(unittest.TestCase):
    def setUp(self):
        self.calls = [begins(1), any_product(1, minutes=100), journey([0]), journey([0]), journey([0])]

    def check(self, call, answer):
        self.assertEqual(last(*self.calls, call), answer, call)

    def test_no_such_product(self):
        self.check(good(1, [0]), [-2])
        self.check(good(HUGE, [0]), [-2])

    def test_no_such_product_stands_ahead(self):
        self.check(good(1, []), [-2])
        self.check(good(1, [1, 0]), [-2])
        self.check(good(1, [3]), [-2])

    def test_no_journey_is_told(self):
        self.check(good(0, []), [-1])

    def test_journeys_that_dont_rise(self):
        self.check(good(0, [1, 0]), [-1])
        self.check(good(0, [1, 1]), [-1])
        self.check(good(0, [0, 2, 1]), [-1])
        self.check(good(0, [0, 1, 1, 2]), [-1])
        self.check(good(0, [0] * 20), [-1])

    def test_there_is_no_such_journey(self):
        self.check(good(0, [3]), [-1])
        self.check(good(0, [0, 1, 2, 3]), [-1])
        self.check(good(0, [0, HUGE]), [-1])
        self.check(good(0, [HUGE, 0]), [-1])

    def test_journeys_that_rise(self):
        for journeys in ([0], [1], [2], [0, 1], [0, 2], [1, 2], [0, 1, 2]):
            self.check(good(0, journeys), [1])


class PersonsTest(unittest.TestCase):
    def check(self, persons, people, answer):
        calls = [begins(1), any_product(1, persons=persons)] + [journey([0], person=person) for person in people]
        self.assertEqual(last(*calls, good(0, list(range(len(people))))), answer)

    def test_no_more_persons_than_told(self):
        self.check(1, [0], [1])
        self.check(1, [0, 9], [0])
        self.check(2, [0, 9], [1])
        self.check(2, [3, 4, 5], [0])
        self.check(6, [0, 1, 2, 3, 4, 5, 6], [0])
        self.check(7, [0, 1, 2, 3, 4, 5, 6], [1])

    def test_one_person_on_several_journeys_counts_once(self):
        self.check(1, [4, 4, 4], [1])
        self.check(2, [4, 5, 4, 5], [1])
        self.check(2, [4, 5, 4, 6], [0])


class MinutesTest(unittest.TestCase):
    def check(self, minutes, journeys, answer):
        calls = [begins(1), any_product(1, minutes=minutes)]
        calls += [journey([0], first=first, minutes=length) for first, length in journeys]
        self.assertEqual(last(*calls, good(0, list(range(len(journeys))))), answer)

    def test_one_journey(self):
        self.check(60, [(100, 60)], [1])
        self.check(60, [(100, 61)], [0])
        self.check(1, [(100, 0)], [1])
        self.check(1, [(100, 1)], [1])
        self.check(1, [(100, 2)], [0])

    def test_the_last_end_counts(self):
        self.check(60, [(100, 10), (150, 10)], [1])
        self.check(60, [(100, 10), (150, 11)], [0])
        self.check(60, [(100, 10), (151, 10)], [0])

    def test_the_earliest_need_not_be_told_first(self):
        self.check(60, [(150, 10), (100, 10)], [1])
        self.check(60, [(151, 10), (100, 10)], [0])

    def test_the_last_to_begin_need_not_be_the_last_to_end(self):
        self.check(60, [(100, 60), (110, 5)], [1])
        self.check(60, [(100, 61), (110, 5)], [0])
        self.check(60, [(100, 5), (110, 51), (120, 5)], [0])

    def test_a_journey_may_begin_at_the_very_end(self):
        self.check(60, [(100, 10), (160, 0)], [1])
        self.check(60, [(100, 10), (161, 0)], [0])

    def test_a_ticket_goes_on_beyond_its_day(self):
        self.check(1000000, [(0, 0), (998560, 1440)], [1])
        self.check(1000000, [(0, 0), (998561, 1440)], [0])
        self.check(1000000, [(1, 0), (1000000, 1)], [1])
        self.check(1000000, [(1, 0), (1000000, 2)], [0])


class FirstMinuteTest(unittest.TestCase):
    def check(self, opens, closes, firsts, answer):
        calls = [begins(1), any_product(1, minutes=5000, opens=opens, closes=closes)]
        calls += [journey([0], first=first) for first in firsts]
        self.assertEqual(last(*calls, good(0, list(range(len(firsts))))), answer)

    def test_not_before_the_one(self):
        self.check(540, 1440, [539], [0])
        self.check(540, 1440, [540], [1])

    def test_before_the_other(self):
        self.check(540, 600, [599], [1])
        self.check(540, 600, [600], [0])
        self.check(0, 1, [0], [1])
        self.check(0, 1, [1], [0])

    def test_a_later_days_minute_is_taken_in_its_day(self):
        self.check(540, 600, [1440 + 539], [0])
        self.check(540, 600, [1440 + 540], [1])
        self.check(540, 600, [5 * 1440 + 599], [1])
        self.check(540, 600, [5 * 1440 + 600], [0])
        self.check(0, 1, [1440], [1])
        self.check(1439, 1440, [1439], [1])
        self.check(1439, 1440, [1440], [0])
        self.check(640, 641, [1000000], [1])

    def test_only_the_earliest_journey_counts(self):
        self.check(540, 600, [599, 700], [1])
        self.check(540, 600, [700, 599], [1])
        self.check(540, 600, [539, 550], [0])
        self.check(540, 600, [550, 539], [0])

    def test_the_earliest_of_all_not_of_a_day(self):
        self.check(540, 600, [1440 + 10, 550], [1])
        self.check(0, 20, [1440 + 10, 550], [0])


class ZonesTest(unittest.TestCase):
    def check(self, pairs, product, zones, answer):
        calls = [begins(8)] + [border(i, j) for i, j in pairs] + [product]
        calls += [journey(row) for row in zones]
        self.assertEqual(last(*calls, good(0, list(range(len(zones))))), answer)

    def test_any_n(self):
        row = [(i, i + 1) for i in range(7)]
        self.check(row, any_product(1), [[3]], [1])
        self.check(row, any_product(1), [[3, 4]], [0])
        self.check(row, any_product(2), [[3, 4]], [1])
        self.check(row, any_product(3), [[3, 4]], [1])
        self.check(row, any_product(7), [[0, 7]], [0])
        self.check(row, any_product(8), [[0, 7]], [1])

    def test_any_n_counts_the_zones_between(self):
        row = [(0, 1), (1, 2)]
        self.check(row, any_product(2), [[0, 2]], [0])
        self.check(row, any_product(3), [[0, 2]], [1])

    def test_any_n_takes_all_journeys_zones_together(self):
        row = [(0, 1), (1, 2), (2, 3)]
        self.check(row, any_product(2), [[0], [1]], [1])
        self.check(row, any_product(2), [[0], [2]], [0])
        self.check(row, any_product(3), [[0], [2]], [1])
        self.check(row, any_product(3), [[0, 1], [3]], [0])
        self.check(row, any_product(4), [[0, 1], [3]], [1])

    def test_any_n_without_a_hull(self):
        self.check([], any_product(8), [[0, 1]], [0])
        self.check([], any_product(8), [[0], [1]], [0])

    def test_told_zones(self):
        self.check([], told_product([1, 3]), [[1]], [1])
        self.check([], told_product([1, 3]), [[3], [1]], [1])
        self.check([], told_product([1, 3]), [[1], [2]], [0])
        self.check([], told_product([1, 3]), [[1, 3, 4]], [0])
        self.check([], told_product([1]), [[1, 3]], [0])

    def test_told_zones_need_no_border_and_nothing_between(self):
        self.check([(1, 2), (2, 3)], told_product([1, 3]), [[1, 3]], [1])
        self.check([], told_product(list(range(8))), [[0, 7], [3]], [1])

    def test_a_border_told_later_counts(self):
        found = ask(begins(2), any_product(2), journey([0, 1]), good(0, [0]), border(0, 1), good(0, [0]))
        self.assertEqual([found[3], found[5]], [[0], [1]])

    def test_only_the_journeys_that_are_told_count(self):
        calls = [begins(2), told_product([0]), journey([0]), journey([1]), journey([0])]
        found = ask(*calls, good(0, [0, 2]), good(0, [0, 1]), good(0, [1]))
        self.assertEqual(found[-3:], [[1], [0], [0]])


if __name__ == "__main__":
    unittest.main()
