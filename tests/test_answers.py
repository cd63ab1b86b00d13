"""The form of calls and answers, create, and what holds for every call."""

import unittest

from convoytimes.timetable import answers
from tests.helper import GREATEST, NAMES, ask, written

# How many numbers each call takes, written down from the interface.
COUNTS = {
    "create": 0, "add_ship": 2, "remove_ship": 1, "set_arrival": 2, "set_weight": 2,
    "list_ships": 0, "add_departure": 1, "cancel_departure": 1, "list_departures": 0,
    "all_served": 0, "total_waiting": 0, "waiting_time": 1, "longest_waiting": 0,
    "optimal_departures": 1, "use_optimal_departures": 1, "excess_waiting": 0,
    "saving_of_departure": 1, "min_departures": 1, "cheapest_count": 1, "total_waiting_with": 1,
    "next_departure": 1, "ships_per_departure": 0, "optimal_waiting_with_ship": 2,
    "optimal_waiting_without_ship": 1, "summary": 0,
}

MIXED = [
    0,
    1, 2, 1,
    1, 5, 3,
    1, 6, 1,
    6, 9,
    6, 5,
    5,
    8,
    9,
    10,
    11, 0,
    12,
    3, 0, 5,
    4, 1, 2,
    7, 9,
    11, 2,
    10,
    2, 2,
    10,
    5,
    13, 1,
    13, 0,
    14, 2,
    15,
    16, 2,
    17, 3,
    18, 2,
    19, 4,
    20, 3,
    21,
    22, 9, 9,
    23, 1,
    24,
    8,
]

MIXED_ANSWERS = [
    1, 0,
    1, 0,
    1, 1,
    1, 2,
    1, 1,
    1, 2,
    7, 3, 2, 1, 5, 3, 6, 1,
    3, 2, 5, 9,
    1, 1,
    1, 6,
    2, 3, 5,
    2, 0, 3,
    1, 2,
    1, 3,
    1, 1,
    1, -33,
    1, -33,
    1, 2,
    1, 0,
    5, 2, 5, 1, 5, 2,
    2, 0, 5,
    1, -22,
    1, 0,
    1, 0,
    1, 0,
    1, 1,
    2, 1, 2,
    1, 0,
    1, 5,
    2, 1, 2,
    1, 12,
    1, 0,
    3, 2, 1, 1,
    2, 1, 5,
]


class FormTest(unittest.TestCase):
    def test_several_calls_number_by_number(self):
        self.assertEqual(answers(list(MIXED)), MIXED_ANSWERS)

    def test_the_example_of_the_document_from_its_first_row_to_its_last(self):
        self.assertEqual(
            ask(
                ("create",),
                ("add_ship", 2, 1),
                ("add_ship", 5, 3),
                ("add_ship", 6, 1),
                ("optimal_departures", 1),
                ("optimal_departures", 2),
                ("saving_of_departure", 2),
                ("add_departure", 5),
                ("waiting_time", 0),
                ("total_waiting",),
            ),
            [[0], [0], [1], [2], [7, 6], [3, 2, 6], [4], [1], [3, 5], [-33]],
        )

    def test_the_example_of_the_document_number_by_number(self):
        self.assertEqual(
            answers([0, 1, 2, 1, 1, 5, 3, 1, 6, 1, 13, 1, 13, 2, 16, 2, 6, 5, 11, 0, 10]),
            [1, 0, 1, 0, 1, 1, 1, 2, 2, 7, 6, 3, 3, 2, 6, 1, 4, 1, 1, 2, 3, 5, 1, -33],
        )

    def test_one_call_alone(self):
        self.assertEqual(answers([0]), [1, 0])
        self.assertEqual(answers([5]), [1, -11])

    def test_answers_are_plain_whole_numbers_in_a_list(self):
        given_back = answers(list(MIXED))
        self.assertIs(type(given_back), list)
        self.assertEqual({type(number) for number in given_back}, {int})

    def test_fifty_calls(self):
        calls = [0] + [1, 7, 2] * 8 + [6, 7] * 8 + [11, 7] * 33
        expected = [1, 0]
        for ship in range(8):
            expected += [1, ship]
        expected += [1, 1] + [1, -17] * 7 + [2, 0, 7] * 33
        self.assertEqual(answers(calls), expected)

    def test_the_list_handed_in_stays_and_is_answered_alike_again(self):
        calls = list(MIXED)
        self.assertEqual(answers(calls), MIXED_ANSWERS)
        self.assertEqual(calls, MIXED)
        self.assertEqual(answers(calls), MIXED_ANSWERS)

    def test_what_is_given_back_is_new_each_time(self):
        first = answers(list(MIXED))
        first.clear()
        self.assertEqual(answers(list(MIXED)), MIXED_ANSWERS)

    def test_nothing_is_kept_from_an_earlier_list(self):
        answers([0, 1, 3, 3, 6, 5])
        self.assertEqual(answers([5]), [1, -11])
        self.assertEqual(answers([0, 5, 8]), [1, 0, 1, 0, 1, 0])


class NoInstanceTest(unittest.TestCase):
    def test_every_call_ahead_of_create(self):
        for name in NAMES[1:]:
            for number in (0, 1, GREATEST):
                with self.subTest(name=name, number=number):
                    call = (name,) + (number,) * COUNTS[name]
                    self.assertEqual(ask(call), [[-11]])
                    self.assertEqual(ask(call, call, ("create",)), [[-11], [-11], [0]])

    def test_all_of_them_one_behind_another(self):
        calls = [(name,) + (1,) * COUNTS[name] for name in NAMES[1:]]
        self.assertEqual(answers(written(calls)), [1, -11] * 24)

    def test_minus_11_is_checked_ahead_of_every_other_error(self):
        self.assertEqual(
            ask(("add_ship", 49, 0), ("set_arrival", 0, 49), ("add_departure", 49), ("total_waiting",)),
            [[-11]] * 4,
        )
        self.assertEqual(
            ask(
                ("optimal_departures", 0), ("use_optimal_departures", 9), ("saving_of_departure", 1),
                ("cheapest_count", 1000), ("total_waiting_with", 49), ("next_departure", 49),
                ("optimal_waiting_with_ship", 49, 0), ("optimal_waiting_without_ship", 0),
            ),
            [[-11]] * 8,
        )

    def test_a_refused_call_ahead_of_create_leaves_nothing(self):
        self.assertEqual(
            ask(("add_ship", 3, 3), ("add_departure", 4), ("create",), ("list_ships",), ("list_departures",)),
            [[-11], [-11], [0], [0], [0]],
        )
        self.assertEqual(
            ask(("use_optimal_departures", 3), ("create",), ("list_departures",), ("summary",)),
            [[-11], [0], [0], [0, 0, 0]],
        )


class CreateTest(unittest.TestCase):
    def test_a_new_instance_is_empty(self):
        self.assertEqual(
            ask(("create",), ("list_ships",), ("list_departures",)),
            [[0], [0], [0]],
        )

    def test_create_again_replaces_the_instance(self):
        self.assertEqual(
            ask(
                ("create",), ("add_ship", 3, 2), ("add_departure", 4), ("create",),
                ("list_ships",), ("list_departures",), ("add_ship", 6, 1), ("add_departure", 4),
            ),
            [[0], [0], [1], [0], [0], [0], [0], [1]],
        )


if __name__ == "__main__":
    unittest.main()
