import unittest

from cheaptickets.tickets import answers
from desk_calls import (
    HUGE, alone, any_product, ask, begins, border, cheap, drop, good, hull, journey, line_of, told_product, without,
)

EVERY_CALL = (
    begins(3), border(0, 1), border(1, 2), told_product([0, 1, 0], price=4), any_product(3, price=9, persons=2),
    journey([0, 1]), journey([2], person=1), journey([1]), drop(2), hull([0, 2]), good(1, [0, 1]), good(0, [1]),
    cheap(), alone(), without(1), begins(9), border(1, 0), drop(7), hull([8]), good(5, [0]), without(4),
)


class UnchangedList(list):
    """A list that fails as soon as anything would change it, though it be put back later."""

    def refuse(self, *args, **kwargs):
        raise AssertionError("the list that was handed in was changed")

    append = extend = insert = pop = remove = clear = sort = reverse = refuse
    __setitem__ = __delitem__ = __iadd__ = __imul__ = refuse


class InterfaceTest(unittest.TestCase):
    def test_how_calls_and_answers_are_written(self):
        calls = [
            0, 2, 0, 3,
            0, 3, 1, 0, 1,
            0, 3, 1, 1, 2,
            0, 8, 2, 0, 3, 9, 60, 2, 0, 1440,
            0, 10, 2, 1, 2, 0, 1, 4, 60, 1, 0, 1440,
            0, 7, 3, 0, 5, 10, 2, 1, 0,
            0, 6, 3, 1, 6, 10, 1, 2,
            0, 4, 5, 2, 2, 0,
            0, 5, 6, 0, 2, 0, 1,
            0, 1, 7,
            0, 1, 8,
            0, 2, 9, 1,
            0, 2, 4, 0,
            0, 2, 4, 1,
        ]
        self.assertEqual(answers(calls), [
            1, 0,
            1, 0,
            1, 0,
            1, 0,
            1, 1,
            1, 0,
            1, 1,
            5, 3, 3, 0, 1, 2,
            1, 1,
            7, 9, 1, 1, 3, 0, 0, 1,
            4, 13, 2, 4, 9,
            1, 4,
            1, 0,
            1, -2,
        ])

    def test_a_refusal_is_its_number_alone(self):
        calls = [0, 2, 0, 9, 0, 3, 1, 0, 0, 0, 2, 5, 0, 0, 3, 5, 1, 0]
        self.assertEqual(answers(calls), [1, -1, 1, -2, 2, 0, 0, 1, -1])

    def test_what_is_handed_in_is_not_changed(self):
        calls = line_of(EVERY_CALL)
        before = list(calls)
        answers(calls)
        self.assertEqual(calls, before)

    def test_what_is_handed_in_is_not_changed_for_a_while_either(self):
        calls = line_of(EVERY_CALL)
        self.assertEqual(answers(UnchangedList(calls)), answers(calls))

    def test_nothing_is_kept(self):
        calls = line_of(EVERY_CALL)
        first = answers(calls)
        self.assertEqual(answers(calls), first)
        answers(line_of([begins(2), border(0, 1), any_product(2), journey([0])]))
        self.assertEqual(answers(calls), first)
        self.assertEqual(ask(border(0, 1), good(0, [0]), drop(0), cheap()), [[-2], [-2], [-2], [0, 1, 1]])

    def test_what_is_given_back_is_new_each_time(self):
        calls = line_of(EVERY_CALL)
        first = answers(calls)
        expected = list(first)
        first.clear()
        self.assertEqual(answers(calls), expected)

    def test_a_list_of_whole_numbers_is_given_back(self):
        found = answers(line_of(EVERY_CALL))
        self.assertIs(type(found), list)
        self.assertEqual({type(number) for number in found}, {int})

    def test_every_call_in_one_line(self):
        self.assertEqual(ask(*EVERY_CALL), [
            [0], [0], [0], [0], [1],
            [0], [1], [2], [0], [3, 3, 0, 1, 2], [1], [0],
            [9, 1, 1, 3, 1, 0, 1], [13, 2, 4, 9], [4], [-1], [-3], [-2], [-1], [-2], [-2],
        ])

    def test_one_call(self):
        self.assertEqual(answers([0, 2, 0, 8]), [1, 0])

    def test_forty_calls(self):
        calls = [begins(1)] + [any_product(1)] * 8 + [journey([0])] * 7 + [drop(0), journey([0])] * 12
        self.assertEqual(len(calls), 40)
        expected = [[0]] + [[k] for k in range(8)] + [[k] for k in range(7)] + [[0], [6]] * 12
        self.assertEqual(ask(*calls), expected)

    def test_ahead_of_any_begins_there_is_nothing(self):
        asked = (
            (border(0, 1), [-2]), (border(0, 0), [-2]), (told_product([0]), [-1]), (told_product([]), [-1]),
            (journey([0]), [-1]), (journey([]), [-1]), (drop(0), [-2]), (hull([]), [0, 0]), (hull([0]), [-1]),
            (good(0, [0]), [-2]), (good(0, []), [-2]), (cheap(), [0, 1, 1]), (alone(), [0, 0]), (without(0), [-2]),
            (begins(0), [-1]), (begins(HUGE), [-1]),
        )
        for call, answer in asked:
            with self.subTest(call):
                self.assertEqual(ask(call), [answer])
                self.assertEqual(ask(call, begins(1), hull([0])), [answer, [0], [1, 1, 0]])

    def test_a_product_of_any_zones_needs_no_zones_on_the_map(self):
        self.assertEqual(ask(any_product(1), any_product(0), good(0, [0])), [[0], [-1], [-1]])
        self.assertEqual(ask(any_product(1), begins(1), good(0, [0])), [[0], [0], [-2]])


if __name__ == "__main__":
    unittest.main()
