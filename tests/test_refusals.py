"""A call that answers an error leaves the instance as it was; so does a call that only asks."""

import unittest

from tests.helper import GREATEST, ask_built

LISTS = (("list_ships",), ("list_departures",))

SHIPS = [(48, 2), (3, 9), (20, 1)]
DEPARTURES = [30, 4, 21]
LISTED = [[3, 48, 2, 3, 9, 20, 1], [3, 4, 21, 30]]

FULL_SHIPS = [(40 + number, 1 + number) for number in range(8)]
FULL_DEPARTURES = [8, 7, 6, 5, 4, 3, 2, 1]
FULL_LISTED = [
    [8, 40, 1, 41, 2, 42, 3, 43, 4, 44, 5, 45, 6, 46, 7, 47, 8],
    [8, 1, 2, 3, 4, 5, 6, 7, 8],
]


class UnchangedTest(unittest.TestCase):
    def check(self, ships, departures, listed, call, expected):
        with self.subTest(call=call):
            self.assertEqual(ask_built(ships, departures, call, *LISTS), [expected] + listed)

    def test_refused_calls(self):
        for call, code in (
            (("add_ship", 49, 1), -22),
            (("add_ship", 1, 0), -22),
            (("add_ship", 1, 10), -22),
            (("remove_ship", 3), -2),
            (("remove_ship", GREATEST), -2),
            (("set_arrival", 3, 5), -2),
            (("set_arrival", 0, 49), -22),
            (("set_weight", 3, 5), -2),
            (("set_weight", 0, 0), -22),
            (("set_weight", 0, 10), -22),
            (("add_departure", 49), -22),
            (("add_departure", 21), -17),
            (("cancel_departure", 20), -2),
            (("total_waiting",), -33),
            (("waiting_time", 3), -2),
            (("waiting_time", 0), -33),
            (("optimal_departures", 0), -22),
            (("optimal_departures", 9), -22),
            (("use_optimal_departures", 0), -22),
            (("use_optimal_departures", 9), -22),
            (("use_optimal_departures", GREATEST), -22),
            (("excess_waiting",), -33),
            (("saving_of_departure", 1), -22),
            (("saving_of_departure", 9), -22),
            (("cheapest_count", 1000), -22),
            (("total_waiting_with", 49), -22),
            (("total_waiting_with", 47), -33),
            (("next_departure", 31), -33),
            (("next_departure", 49), -33),
            (("optimal_waiting_with_ship", 49, 1), -22),
            (("optimal_waiting_with_ship", 1, 0), -22),
            (("optimal_waiting_with_ship", 1, 10), -22),
            (("optimal_waiting_without_ship", 3), -2),
            (("optimal_waiting_without_ship", GREATEST), -2),
        ):
            self.check(SHIPS, DEPARTURES, LISTED, call, [code])

    def test_refused_calls_of_a_full_instance(self):
        for call, code in (
            (("add_ship", 1, 1), -28),
            (("add_ship", 49, 1), -22),
            (("remove_ship", 8), -2),
            (("set_arrival", 8, 1), -2),
            (("set_weight", 8, 1), -2),
            (("add_departure", 9), -28),
            (("add_departure", 8), -17),
            (("add_departure", 49), -22),
            (("cancel_departure", 9), -2),
            (("waiting_time", 7), -33),
            (("longest_waiting",), -33),
            (("use_optimal_departures", 9), -22),
            (("excess_waiting",), -33),
            (("total_waiting_with", 46), -33),
            (("next_departure", 9), -33),
            (("optimal_waiting_with_ship", 1, 1), -28),
            (("optimal_waiting_with_ship", 49, 1), -22),
            (("optimal_waiting_without_ship", 8), -2),
        ):
            self.check(FULL_SHIPS, FULL_DEPARTURES, FULL_LISTED, call, [code])

    def test_calls_that_only_ask(self):
        for call, expected in (
            (("list_ships",), LISTED[0]),
            (("list_departures",), LISTED[1]),
            (("all_served",), [0]),
            (("waiting_time", 1), [1, 4]),
            (("longest_waiting",), [1, 1]),
            (("optimal_departures", 2), [28 * 1, 3, 48]),
            (("saving_of_departure", 2), [45 * 9]),
            (("min_departures", 27), [3]),
            (("cheapest_count", 27), [3, 81]),
            (("total_waiting_with", 48), [9 * 1 + 1 * 1]),
            (("next_departure", 22), [30]),
            (("ships_per_departure",), [3, 1, 1, 0]),
            (("optimal_waiting_with_ship", 21, 1), [1]),
            (("optimal_waiting_without_ship", 1), [0]),
            (("summary",), [3, 3, 3]),
        ):
            self.check(SHIPS, DEPARTURES, LISTED, call, expected)
        self.check([(3, 9)], [5], [[1, 3, 9], [1, 5]], ("total_waiting",), [18])
        self.check([(3, 9)], [5], [[1, 3, 9], [1, 5]], ("excess_waiting",), [18])

    def test_calls_go_on_as_before_behind_a_refusal(self):
        self.assertEqual(
            ask_built(
                SHIPS, DEPARTURES,
                ("add_ship", 49, 1), ("add_ship", 5, 5), ("add_departure", 4), ("add_departure", 48),
                ("remove_ship", 4), ("total_waiting",),
            ),
            [[-22], [3], [-17], [4], [-2], [0 + 9 + 1 + 5 * 16]],
        )


if __name__ == "__main__":
    unittest.main()
