"""add_ship, remove_ship, set_arrival, set_weight and list_ships."""

import unittest

from tests.helper import GREATEST, ask, ask_built

THREE = [(2, 1), (5, 3), (6, 9)]
EIGHT = [(hour, 1 + hour) for hour in range(8)]
LIST_OF_THREE = [3, 2, 1, 5, 3, 6, 9]


class AddShipTest(unittest.TestCase):
    def test_ships_are_numbered_in_the_order_of_adding(self):
        self.assertEqual(
            ask(("create",), ("add_ship", 9, 1), ("add_ship", 3, 2), ("add_ship", 9, 1), ("list_ships",)),
            [[0], [0], [1], [2], [3, 9, 1, 3, 2, 9, 1]],
        )

    def test_the_edges_that_are_granted(self):
        for arrival in (0, 48):
            for weight in (1, 9):
                with self.subTest(arrival=arrival, weight=weight):
                    self.assertEqual(
                        ask_built([], [], ("add_ship", arrival, weight), ("list_ships",)),
                        [[0], [1, arrival, weight]],
                    )

    def test_out_of_range(self):
        for arrival, weight in (
            (49, 1), (49, 9), (GREATEST, 1), (0, 0), (48, 0), (0, 10), (48, 10), (0, GREATEST),
            (49, 0), (49, 10), (GREATEST, GREATEST),
        ):
            with self.subTest(arrival=arrival, weight=weight):
                self.assertEqual(
                    ask_built(THREE, [], ("add_ship", arrival, weight), ("list_ships",)),
                    [[-22], LIST_OF_THREE],
                )

    def test_the_eighth_and_the_ninth_ship(self):
        listed = [8] + [number for ship in EIGHT for number in ship]
        self.assertEqual(
            ask_built(EIGHT[:7], [], ("add_ship", *EIGHT[7]), ("add_ship", 1, 1), ("list_ships",)),
            [[7], [-28], listed],
        )

    def test_out_of_range_is_checked_ahead_of_full(self):
        self.assertEqual(
            ask_built(EIGHT, [], ("add_ship", 49, 1), ("add_ship", 48, 0), ("add_ship", 0, 10), ("add_ship", 48, 9)),
            [[-22], [-22], [-22], [-28]],
        )

    def test_a_ship_fits_again_after_one_is_removed(self):
        self.assertEqual(
            ask_built(EIGHT, [], ("remove_ship", 0), ("add_ship", 40, 4), ("waiting_time", 7)),
            [[7], [7], [-33]],
        )


class RemoveShipTest(unittest.TestCase):
    def test_later_ships_are_renumbered(self):
        self.assertEqual(
            ask_built(
                THREE, [10],
                ("remove_ship", 0), ("list_ships",), ("waiting_time", 0), ("waiting_time", 1), ("waiting_time", 2),
            ),
            [[2], [2, 5, 3, 6, 9], [5, 10], [4, 10], [-2]],
        )

    def test_earlier_ships_keep_their_numbers(self):
        self.assertEqual(
            ask_built(THREE, [], ("remove_ship", 1), ("list_ships",), ("remove_ship", 1), ("list_ships",)),
            [[2], [2, 2, 1, 6, 9], [1], [1, 2, 1]],
        )

    def test_one_of_two_alike_is_removed(self):
        self.assertEqual(
            ask_built([(4, 2), (4, 2), (5, 1)], [], ("remove_ship", 1), ("list_ships",)),
            [[2], [2, 4, 2, 5, 1]],
        )

    def test_down_to_no_ship(self):
        self.assertEqual(
            ask_built([(4, 2)], [], ("remove_ship", 0), ("list_ships",), ("remove_ship", 0)),
            [[0], [0], [-2]],
        )

    def test_no_such_ship(self):
        for ship in (3, 4, 8, GREATEST):
            with self.subTest(ship=ship):
                self.assertEqual(
                    ask_built(THREE, [], ("remove_ship", ship), ("list_ships",)),
                    [[-2], LIST_OF_THREE],
                )

    def test_departures_stay_when_ships_change(self):
        self.assertEqual(
            ask_built(
                THREE, [6, 2],
                ("remove_ship", 2), ("list_departures",), ("set_arrival", 0, 40), ("list_departures",),
                ("set_weight", 0, 4), ("list_departures",), ("add_ship", 9, 9), ("list_departures",),
            )[1::2],
            [[2, 2, 6]] * 4,
        )


class SetArrivalTest(unittest.TestCase):
    def test_the_previous_arrival_is_answered(self):
        self.assertEqual(
            ask_built(THREE, [], ("set_arrival", 1, 30), ("set_arrival", 1, 30), ("set_arrival", 1, 4), ("list_ships",)),
            [[5], [30], [30], [3, 2, 1, 4, 3, 6, 9]],
        )

    def test_the_edges_that_are_granted(self):
        self.assertEqual(
            ask_built(THREE, [], ("set_arrival", 0, 0), ("set_arrival", 2, 48), ("list_ships",)),
            [[2], [6], [3, 0, 1, 5, 3, 48, 9]],
        )

    def test_out_of_range(self):
        for arrival in (49, 50, GREATEST):
            with self.subTest(arrival=arrival):
                self.assertEqual(
                    ask_built(THREE, [], ("set_arrival", 2, arrival), ("list_ships",)),
                    [[-22], LIST_OF_THREE],
                )

    def test_no_such_ship_is_checked_first(self):
        for ship in (3, GREATEST):
            for arrival in (0, 48, 49, GREATEST):
                with self.subTest(ship=ship, arrival=arrival):
                    self.assertEqual(
                        ask_built(THREE, [], ("set_arrival", ship, arrival), ("list_ships",)),
                        [[-2], LIST_OF_THREE],
                    )

    def test_without_ships(self):
        self.assertEqual(ask_built([], [], ("set_arrival", 0, 1), ("list_ships",)), [[-2], [0]])


class SetWeightTest(unittest.TestCase):
    def test_the_previous_weight_is_answered(self):
        self.assertEqual(
            ask_built(THREE, [], ("set_weight", 1, 7), ("set_weight", 1, 7), ("set_weight", 1, 2), ("list_ships",)),
            [[3], [7], [7], [3, 2, 1, 5, 2, 6, 9]],
        )

    def test_the_edges_that_are_granted(self):
        self.assertEqual(
            ask_built(THREE, [], ("set_weight", 0, 9), ("set_weight", 2, 1), ("list_ships",)),
            [[1], [9], [3, 2, 9, 5, 3, 6, 1]],
        )

    def test_out_of_range(self):
        for weight in (0, 10, GREATEST):
            with self.subTest(weight=weight):
                self.assertEqual(
                    ask_built(THREE, [], ("set_weight", 2, weight), ("list_ships",)),
                    [[-22], LIST_OF_THREE],
                )

    def test_no_such_ship_is_checked_first(self):
        for ship in (3, GREATEST):
            for weight in (0, 1, 9, 10, GREATEST):
                with self.subTest(ship=ship, weight=weight):
                    self.assertEqual(
                        ask_built(THREE, [], ("set_weight", ship, weight), ("list_ships",)),
                        [[-2], LIST_OF_THREE],
                    )

    def test_without_ships(self):
        self.assertEqual(ask_built([], [], ("set_weight", 0, 1), ("list_ships",)), [[-2], [0]])


class ListShipsTest(unittest.TestCase):
    def test_no_ship_and_eight_ships(self):
        self.assertEqual(ask_built([], [3], ("list_ships",)), [[0]])
        self.assertEqual(
            ask_built(EIGHT, [], ("list_ships",)),
            [[8, 0, 1, 1, 2, 2, 3, 3, 4, 4, 5, 5, 6, 6, 7, 7, 8]],
        )


if __name__ == "__main__":
    unittest.main()
