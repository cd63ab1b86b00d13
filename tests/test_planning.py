"""excess_waiting, total_waiting_with, next_departure, ships_per_departure, the two optimal waitings of a ship more
or less, and summary."""

import unittest

from tests.helper import GREATEST, ask_built

THREE = [(2, 1), (5, 3), (6, 1)]
EIGHT = [(hour, 1) for hour in range(8)]
LISTS = (("list_ships",), ("list_departures",))


class ExcessWaitingTest(unittest.TestCase):
    def excess(self, ships, departures):
        return ask_built(ships, departures, ("excess_waiting",))[0]

    def test_the_total_waiting_beyond_the_optimum_for_as_many_departures(self):
        self.assertEqual(self.excess(THREE, [6]), [0])
        self.assertEqual(self.excess(THREE, [8]), [17 - 7])
        self.assertEqual(self.excess(THREE, [5, 6]), [3 - 3])
        self.assertEqual(self.excess(THREE, [3, 8]), [1 + 9 + 2 - 3])
        self.assertEqual(self.excess(THREE, [6, 7, 8]), [7 - 0])

    def test_more_departures_than_arrival_hours(self):
        self.assertEqual(self.excess(THREE, [0, 1, 3, 8, 20]), [1 + 9 + 2])
        self.assertEqual(self.excess([(40, 2)], range(41, 49)), [2])

    def test_no_departures_and_no_ships(self):
        self.assertEqual(self.excess([], []), [0])

    def test_departures_and_no_ships(self):
        self.assertEqual(self.excess([], [48]), [0])
        self.assertEqual(self.excess([], range(8)), [0])

    def test_ships_that_are_not_served(self):
        self.assertEqual(self.excess(THREE, []), [-33])
        self.assertEqual(self.excess(THREE, [5]), [-33])
        self.assertEqual(self.excess([(48, 1)], range(40, 48)), [-33])

    def test_it_changes_nothing(self):
        self.assertEqual(
            ask_built(THREE, [8, 3], ("excess_waiting",), *LISTS),
            [[9], [3, 2, 1, 5, 3, 6, 1], [2, 3, 8]],
        )


class TotalWaitingWithTest(unittest.TestCase):
    def with_hours(self, ships, departures, *hours):
        return ask_built(ships, departures, *[("total_waiting_with", hour) for hour in hours])

    def test_one_departure_more(self):
        self.assertEqual(self.with_hours(THREE, [8], 2, 3, 5, 6, 7), [[11], [12], [5], [7], [12]])
        self.assertEqual(self.with_hours(THREE, [], 6, 8, 48), [[7], [17], [46 + 129 + 42]])

    def test_hours_that_help_nobody(self):
        self.assertEqual(self.with_hours(THREE, [8], 0, 1, 9, 48), [[17]] * 4)

    def test_an_hour_that_is_a_departure_already(self):
        self.assertEqual(self.with_hours(THREE, [5, 8], 5, 8), [[5], [5]])

    def test_with_eight_departures_already(self):
        departures = [40, 41, 42, 43, 44, 45, 46, 47]
        self.assertEqual(
            self.with_hours([(39, 2), (48, 1), (40, 4)], departures, 48, 47, 39),
            [[2], [-33], [-33]],
        )
        self.assertEqual(self.with_hours([(39, 2), (40, 4)], departures, 39, 40, 38), [[0], [2], [2]])

    def test_some_ship_would_not_be_served(self):
        self.assertEqual(self.with_hours(THREE, [], 0, 5), [[-33], [-33]])
        self.assertEqual(self.with_hours(THREE, [1, 5], 4, 5), [[-33], [-33]])
        self.assertEqual(self.with_hours([(48, 1)], [47], 47, 48), [[-33], [0]])

    def test_the_edges_of_the_hour(self):
        self.assertEqual(
            self.with_hours([(0, 1)], [48], 0, 48, 49, 50, GREATEST),
            [[0], [48], [-22], [-22], [-22]],
        )

    def test_out_of_range_is_checked_ahead_of_not_served(self):
        self.assertEqual(self.with_hours([(48, 1)], [], 47, 49, GREATEST), [[-33], [-22], [-22]])

    def test_no_ships(self):
        self.assertEqual(self.with_hours([], [], 0, 48, 49), [[0], [0], [-22]])

    def test_it_changes_nothing(self):
        for hour in (6, 8, 48, 49):
            with self.subTest(hour=hour):
                self.assertEqual(
                    ask_built(THREE, [8, 3], ("total_waiting_with", hour), *LISTS)[1:],
                    [[3, 2, 1, 5, 3, 6, 1], [2, 3, 8]],
                )


class NextDepartureTest(unittest.TestCase):
    def following(self, departures, *hours):
        return ask_built(THREE, departures, *[("next_departure", hour) for hour in hours])

    def test_the_smallest_departure_from_the_hour_on(self):
        self.assertEqual(
            self.following([30, 4, 21], 0, 3, 4, 5, 21, 22, 30),
            [[4], [4], [4], [21], [21], [30], [30]],
        )

    def test_the_edges(self):
        self.assertEqual(self.following([0, 48], 0, 1, 47, 48), [[0], [48], [48], [48]])

    def test_no_such_departure(self):
        self.assertEqual(self.following([30, 4, 21], 31, 48), [[-33], [-33]])
        self.assertEqual(self.following([], 0, 48), [[-33], [-33]])

    def test_an_hour_beyond_the_range_of_hours_is_no_error_of_range(self):
        self.assertEqual(self.following([48], 49, 50, GREATEST), [[-33]] * 3)
        self.assertEqual(self.following([], 49, GREATEST), [[-33]] * 2)


class ShipsPerDepartureTest(unittest.TestCase):
    def counts(self, ships, departures):
        return ask_built(ships, departures, ("ships_per_departure",))[0]

    def test_one_count_for_each_departure_in_increasing_order(self):
        self.assertEqual(self.counts(THREE, [9, 5]), [2, 2, 1])
        self.assertEqual(self.counts(THREE, [6, 2, 5]), [3, 1, 1, 1])
        self.assertEqual(self.counts([(20, 1), (0, 9), (21, 1), (3, 1), (3, 2)], [21, 3]), [2, 3, 2])

    def test_departures_without_ships(self):
        self.assertEqual(self.counts(THREE, [1, 6, 7, 48]), [4, 0, 3, 0, 0])
        self.assertEqual(self.counts([], [48, 0]), [2, 0, 0])

    def test_ships_that_are_not_served_leave_with_none(self):
        self.assertEqual(self.counts(THREE, [5]), [1, 2])
        self.assertEqual(self.counts([(48, 1), (10, 1)], [9]), [1, 0])

    def test_no_departures(self):
        self.assertEqual(self.counts(THREE, []), [0])
        self.assertEqual(self.counts([], []), [0])

    def test_eight_ships_and_eight_departures(self):
        self.assertEqual(self.counts(EIGHT, range(8)), [8] + [1] * 8)
        self.assertEqual(self.counts([(48, 9)] * 8, range(41, 49)), [8] + [0] * 7 + [8])


class OptimalWaitingWithShipTest(unittest.TestCase):
    def with_ship(self, ships, departures, arrival, weight):
        return ask_built(ships, departures, ("optimal_waiting_with_ship", arrival, weight))[0]

    def test_for_as_many_departures_as_there_are(self):
        self.assertEqual(self.with_ship(THREE, [1], 8, 2), [6 + 9 + 2])
        self.assertEqual(self.with_ship(THREE, [1, 4], 8, 2), [5])
        self.assertEqual(self.with_ship(THREE, [1, 4, 40], 8, 2), [2])
        self.assertEqual(self.with_ship(THREE, [1, 4, 40, 48], 8, 2), [0])

    def test_for_one_departure_where_there_is_none(self):
        self.assertEqual(self.with_ship(THREE, [], 8, 2), [6 + 9 + 2])
        self.assertEqual(self.with_ship([], [], 8, 2), [0])

    def test_the_weight_counts(self):
        self.assertEqual(self.with_ship(THREE, [9], 0, 9), [54 + 7])
        self.assertEqual(self.with_ship(THREE, [9], 0, 1), [6 + 7])
        self.assertEqual(self.with_ship(THREE, [9], 6, 9), [7])

    def test_the_edges(self):
        for arrival in (0, 48):
            for weight in (1, 9):
                with self.subTest(arrival=arrival, weight=weight):
                    self.assertEqual(
                        self.with_ship([(24, 5)], [], arrival, weight),
                        [24 * weight if arrival == 0 else 24 * 5],
                    )

    def test_out_of_range(self):
        for arrival, weight in ((49, 1), (49, 9), (0, 0), (48, 0), (48, 10), (GREATEST, 1), (0, GREATEST), (49, 10)):
            with self.subTest(arrival=arrival, weight=weight):
                self.assertEqual(self.with_ship(THREE, [7], arrival, weight), [-22])
                self.assertEqual(self.with_ship([], [], arrival, weight), [-22])

    def test_seven_ships_and_eight(self):
        self.assertEqual(self.with_ship(EIGHT[:7], [9], 7, 1), [28])
        self.assertEqual(self.with_ship(EIGHT, [9], 7, 1), [-28])

    def test_out_of_range_is_checked_ahead_of_full(self):
        for arrival, weight in ((49, 1), (7, 0), (7, 10), (GREATEST, GREATEST)):
            with self.subTest(arrival=arrival, weight=weight):
                self.assertEqual(self.with_ship(EIGHT, [9], arrival, weight), [-22])

    def test_it_changes_nothing(self):
        self.assertEqual(
            ask_built(THREE, [8, 3], ("optimal_waiting_with_ship", 0, 9), ("add_ship", 1, 1), *LISTS),
            [[4 + 3], [3], [4, 2, 1, 5, 3, 6, 1, 1, 1], [2, 3, 8]],
        )


class OptimalWaitingWithoutShipTest(unittest.TestCase):
    def without(self, ships, departures, *numbers):
        return ask_built(ships, departures, *[("optimal_waiting_without_ship", ship) for ship in numbers])

    def test_for_as_many_departures_as_there_are(self):
        ships = THREE + [(10, 2)]
        self.assertEqual(self.without(ships, [1], 0, 1, 2, 3), [[19], [12], [23], [7]])
        self.assertEqual(self.without(ships, [1, 4], 0, 1, 2, 3), [[3], [4], [3], [3]])
        self.assertEqual(self.without(ships, [1, 4, 48], 0, 1, 2, 3), [[0]] * 4)

    def test_for_one_departure_where_there_is_none(self):
        self.assertEqual(self.without(THREE, [], 0, 1, 2), [[3], [4], [3]])

    def test_the_last_ship_of_all(self):
        self.assertEqual(self.without([(7, 9)], [], 0), [[0]])
        self.assertEqual(self.without([(7, 9)], [1, 2], 0), [[0]])

    def test_one_of_two_ships_alike(self):
        self.assertEqual(self.without([(3, 2), (9, 1), (3, 2)], [], 0, 2, 1), [[12], [12], [0]])

    def test_eight_ships(self):
        self.assertEqual(self.without(EIGHT, [9], 0, 7, 8), [[21], [21], [-2]])

    def test_no_such_ship(self):
        self.assertEqual(self.without(THREE, [9], 2, 3, 4, 8, GREATEST), [[3], [-2], [-2], [-2], [-2]])
        self.assertEqual(self.without([], [9], 0, GREATEST), [[-2], [-2]])

    def test_it_changes_nothing(self):
        self.assertEqual(
            ask_built(THREE, [8, 3], ("optimal_waiting_without_ship", 1), ("waiting_time", 2), *LISTS),
            [[0], [2, 8], [3, 2, 1, 5, 3, 6, 1], [2, 3, 8]],
        )


class SummaryTest(unittest.TestCase):
    def test_ships_and_different_hours_and_departures(self):
        self.assertEqual(ask_built(THREE, [9], ("summary",)), [[3, 3, 1]])
        self.assertEqual(ask_built([(5, 1), (2, 1), (5, 9), (5, 1)], [5, 2], ("summary",)), [[4, 2, 2]])

    def test_nothing_and_everything(self):
        self.assertEqual(ask_built([], [], ("summary",)), [[0, 0, 0]])
        self.assertEqual(ask_built([], [0, 48], ("summary",)), [[0, 0, 2]])
        self.assertEqual(ask_built(EIGHT, range(8), ("summary",)), [[8, 8, 8]])
        self.assertEqual(ask_built([(48, 1)] * 8, [], ("summary",)), [[8, 1, 0]])

    def test_it_follows_the_changes(self):
        self.assertEqual(
            ask_built(
                [(5, 1), (2, 1), (5, 9)], [9, 8],
                ("set_arrival", 1, 5), ("summary",), ("remove_ship", 0), ("summary",),
                ("use_optimal_departures", 8), ("summary",), ("create",), ("summary",),
            )[1::2],
            [[3, 1, 2], [2, 1, 2], [2, 1, 1], [0, 0, 0]],
        )


if __name__ == "__main__":
    unittest.main()
