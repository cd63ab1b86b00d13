"""add_departure, cancel_departure and list_departures."""

import itertools
import unittest

from tests.helper import GREATEST, ask_built

EIGHT = [3, 6, 9, 12, 15, 18, 21, 24]


class AddDepartureTest(unittest.TestCase):
    def test_the_new_number_of_departures_is_answered(self):
        self.assertEqual(
            ask_built([], [], ("add_departure", 7), ("add_departure", 3), ("list_departures",)),
            [[1], [2], [2, 3, 7]],
        )

    def test_listed_in_increasing_order_whatever_the_order_of_adding(self):
        for hours in itertools.permutations((0, 5, 17, 48)):
            with self.subTest(hours=hours):
                self.assertEqual(ask_built([], hours, ("list_departures",)), [[4, 0, 5, 17, 48]])

    def test_the_edges_that_are_granted(self):
        self.assertEqual(
            ask_built([], [], ("add_departure", 48), ("add_departure", 0), ("list_departures",)),
            [[1], [2], [2, 0, 48]],
        )

    def test_out_of_range(self):
        for hour in (49, 50, GREATEST):
            with self.subTest(hour=hour):
                self.assertEqual(
                    ask_built([], [6, 2], ("add_departure", hour), ("list_departures",)),
                    [[-22], [2, 2, 6]],
                )

    def test_a_departure_at_this_hour_already(self):
        for hour in (0, 6, 48):
            with self.subTest(hour=hour):
                self.assertEqual(
                    ask_built([], [0, 6, 48], ("add_departure", hour), ("list_departures",)),
                    [[-17], [3, 0, 6, 48]],
                )

    def test_the_eighth_and_the_ninth_departure(self):
        self.assertEqual(
            ask_built([], EIGHT[1:], ("add_departure", 3), ("add_departure", 48), ("list_departures",)),
            [[8], [-28], [8] + EIGHT],
        )

    def test_the_order_of_the_errors(self):
        self.assertEqual(
            ask_built(
                [], EIGHT,
                ("add_departure", 49), ("add_departure", GREATEST), ("add_departure", 24), ("add_departure", 23),
                ("list_departures",),
            ),
            [[-22], [-22], [-17], [-28], [8] + EIGHT],
        )

    def test_ships_stay_when_departures_change(self):
        self.assertEqual(
            ask_built(
                [(9, 2), (1, 5)], [],
                ("add_departure", 4), ("list_ships",), ("cancel_departure", 4), ("list_ships",),
            )[1::2],
            [[2, 9, 2, 1, 5]] * 2,
        )


class CancelDepartureTest(unittest.TestCase):
    def test_the_number_of_remaining_departures_is_answered(self):
        self.assertEqual(
            ask_built(
                [], [9, 0, 48],
                ("cancel_departure", 9), ("list_departures",), ("cancel_departure", 48), ("list_departures",),
                ("cancel_departure", 0), ("list_departures",), ("cancel_departure", 0),
            ),
            [[2], [2, 0, 48], [1], [1, 0], [0], [0], [-2]],
        )

    def test_no_departure_at_this_hour(self):
        for hour in (0, 2, 7, 48, 49, GREATEST):
            with self.subTest(hour=hour):
                self.assertEqual(
                    ask_built([], [6, 1], ("cancel_departure", hour), ("list_departures",)),
                    [[-2], [2, 1, 6]],
                )

    def test_a_departure_fits_again_after_one_is_cancelled(self):
        self.assertEqual(
            ask_built([], EIGHT, ("cancel_departure", 12), ("add_departure", 12), ("list_departures",)),
            [[7], [8], [8] + EIGHT],
        )


class ListDeparturesTest(unittest.TestCase):
    def test_no_departure(self):
        self.assertEqual(ask_built([(1, 1)], [], ("list_departures",)), [[0]])


if __name__ == "__main__":
    unittest.main()
