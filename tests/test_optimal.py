"""optimal_departures, use_optimal_departures, saving_of_departure, min_departures and cheapest_count."""

import unittest

from tests.helper import GREATEST, ask_built

THREE = [(2, 1), (5, 3), (6, 1)]
EIGHT_HOURS = [(33, 1), (0, 3), (48, 5), (6, 1), (21, 7), (13, 9), (40, 4), (20, 2)]
ONE_HOUR = [(12, weight) for weight in range(1, 9)]


class OptimalDeparturesTest(unittest.TestCase):
    def optimal(self, ships, most):
        return ask_built(ships, [], ("optimal_departures", most))[0]

    def test_the_total_and_then_the_hours(self):
        self.assertEqual(self.optimal(THREE, 1), [7, 6])
        self.assertEqual(self.optimal(THREE, 2), [3, 2, 6])
        self.assertEqual(self.optimal(THREE, 3), [0, 2, 5, 6])

    def test_more_convoys_than_arrival_hours(self):
        for most in (3, 4, 7, 8):
            with self.subTest(most=most):
                self.assertEqual(self.optimal(THREE, most), [0, 2, 5, 6])

    def test_the_edges_of_max_departures(self):
        for most in (0, 9, GREATEST):
            with self.subTest(most=most):
                self.assertEqual(self.optimal(THREE, most), [-22])
                self.assertEqual(self.optimal([], most), [-22])
        self.assertEqual(self.optimal(EIGHT_HOURS, 1), [793, 48])
        self.assertEqual(self.optimal(EIGHT_HOURS, 8), [0, 0, 6, 13, 20, 21, 33, 40, 48])

    def test_no_ships(self):
        for most in range(1, 9):
            with self.subTest(most=most):
                self.assertEqual(self.optimal([], most), [0])

    def test_eight_ships_at_eight_hours(self):
        for most, expected in (
            (2, [199, 21, 48]),
            (3, [95, 13, 21, 48]),
            (4, [55, 13, 21, 40, 48]),
            (5, [16, 0, 13, 21, 40, 48]),
            (6, [9, 0, 6, 13, 21, 40, 48]),
            (7, [2, 0, 6, 13, 21, 33, 40, 48]),
        ):
            with self.subTest(most=most):
                self.assertEqual(self.optimal(EIGHT_HOURS, most), expected)

    def test_eight_ships_at_one_hour(self):
        for most in range(1, 9):
            with self.subTest(most=most):
                self.assertEqual(self.optimal(ONE_HOUR, most), [0, 12])

    def test_one_ship_at_each_end_of_the_day(self):
        self.assertEqual(self.optimal([(0, 1)], 1), [0, 0])
        self.assertEqual(self.optimal([(48, 9)], 8), [0, 48])
        self.assertEqual(self.optimal([(48, 1), (0, 9)], 1), [432, 48])
        self.assertEqual(self.optimal([(48, 1), (0, 9)], 2), [0, 0, 48])

    def test_the_greatest_total(self):
        self.assertEqual(self.optimal([(0, 9)] * 7 + [(48, 1)], 1), [7 * 9 * 48, 48])

    def test_weights_decide(self):
        self.assertEqual(self.optimal([(0, 1), (10, 9), (20, 1)], 2), [10, 10, 20])
        self.assertEqual(self.optimal([(0, 9), (10, 1), (20, 1)], 2), [10, 0, 20])

    def test_weights_of_one_hour_are_added(self):
        self.assertEqual(self.optimal([(0, 2), (0, 2), (5, 3), (10, 1)], 2), [15, 0, 10])
        self.assertEqual(self.optimal([(0, 2), (5, 3), (10, 1)], 2), [10, 5, 10])

    def test_ties_go_to_the_lexicographically_smallest_list(self):
        for ships, most, expected in (
            ([(0, 1), (1, 1), (2, 1)], 2, [1, 0, 2]),
            ([(0, 1), (1, 1), (2, 1), (3, 1)], 3, [1, 0, 1, 3]),
            ([(0, 1), (1, 1), (2, 1), (3, 1)], 2, [2, 1, 3]),
            ([(0, 9), (10, 1), (11, 1), (12, 1)], 3, [1, 0, 10, 12]),
            ([(0, 1), (2, 1), (4, 1), (6, 1), (8, 1)], 3, [4, 0, 4, 8]),
            ([(3, 4), (5, 2), (9, 8)], 2, [8, 3, 9]),
            ([(8, 1), (4, 2), (0, 2)], 2, [8, 0, 8]),
        ):
            with self.subTest(ships=ships, most=most):
                self.assertEqual(self.optimal(ships, most), expected)

    def test_the_departures_of_the_timetable_do_not_matter(self):
        for departures in ([], [1], [3, 4, 48]):
            with self.subTest(departures=departures):
                self.assertEqual(ask_built(THREE, departures, ("optimal_departures", 2)), [[3, 2, 6]])

    def test_it_follows_the_changes(self):
        self.assertEqual(
            ask_built(
                THREE, [],
                ("set_weight", 0, 9), ("optimal_departures", 2), ("set_arrival", 2, 40), ("optimal_departures", 2),
                ("remove_ship", 1), ("optimal_departures", 1), ("add_ship", 3, 1), ("optimal_departures", 2),
            )[1::2],
            [[3, 2, 6], [27, 5, 40], [9 * 38, 40], [9, 3, 40]],
        )


class UseOptimalDeparturesTest(unittest.TestCase):
    def test_the_departures_are_replaced(self):
        self.assertEqual(
            ask_built(
                THREE, [1, 5, 48],
                ("use_optimal_departures", 2), ("list_departures",), ("total_waiting",), ("list_ships",),
                ("use_optimal_departures", 1), ("list_departures",), ("total_waiting",),
            ),
            [[3], [2, 2, 6], [3], [3, 2, 1, 5, 3, 6, 1], [7], [1, 6], [7]],
        )

    def test_more_convoys_than_arrival_hours(self):
        self.assertEqual(
            ask_built(THREE, [], ("use_optimal_departures", 8), ("list_departures",), ("excess_waiting",)),
            [[0], [3, 2, 5, 6], [0]],
        )

    def test_eight_departures_are_replaced_by_eight(self):
        self.assertEqual(
            ask_built(
                EIGHT_HOURS, range(1, 9),
                ("use_optimal_departures", 8), ("list_departures",), ("add_departure", 1),
            ),
            [[0], [8, 0, 6, 13, 20, 21, 33, 40, 48], [-28]],
        )

    def test_an_empty_list_where_there_are_no_ships(self):
        for most in (1, 8):
            with self.subTest(most=most):
                self.assertEqual(
                    ask_built([], [5, 48], ("use_optimal_departures", most), ("list_departures",), ("summary",)),
                    [[0], [0], [0, 0, 0]],
                )

    def test_the_edges_of_max_departures(self):
        for most in (0, 9, GREATEST):
            with self.subTest(most=most):
                self.assertEqual(
                    ask_built(THREE, [30, 1], ("use_optimal_departures", most), ("list_departures",)),
                    [[-22], [2, 1, 30]],
                )
                self.assertEqual(
                    ask_built([], [30], ("use_optimal_departures", most), ("list_departures",)),
                    [[-22], [1, 30]],
                )

    def test_the_departures_are_the_timetables_own_from_then_on(self):
        self.assertEqual(
            ask_built(
                THREE, [],
                ("use_optimal_departures", 2), ("add_departure", 4), ("cancel_departure", 6), ("list_departures",),
                ("optimal_departures", 2), ("use_optimal_departures", 2), ("list_departures",),
            ),
            [[3], [3], [2], [2, 2, 4], [3, 2, 6], [3], [2, 2, 6]],
        )

    def test_ties_go_to_the_lexicographically_smallest_list(self):
        self.assertEqual(
            ask_built([(2, 1), (1, 1), (0, 1)], [], ("use_optimal_departures", 2), ("list_departures",)),
            [[1], [2, 0, 2]],
        )


class SavingOfDepartureTest(unittest.TestCase):
    def savings(self, ships):
        return [answer[0] for answer in ask_built(ships, [], *[("saving_of_departure", k) for k in range(2, 9)])]

    def test_what_each_further_departure_saves(self):
        self.assertEqual(self.savings(THREE), [4, 3, 0, 0, 0, 0, 0])
        self.assertEqual(self.savings(EIGHT_HOURS), [594, 104, 40, 39, 7, 7, 2])

    def test_no_ships_and_one_hour(self):
        self.assertEqual(self.savings([]), [0] * 7)
        self.assertEqual(self.savings(ONE_HOUR), [0] * 7)

    def test_the_edges_of_k(self):
        for k in (0, 1, 9, GREATEST):
            with self.subTest(k=k):
                self.assertEqual(ask_built(THREE, [], ("saving_of_departure", k)), [[-22]])
                self.assertEqual(ask_built([], [], ("saving_of_departure", k)), [[-22]])


class MinDeparturesTest(unittest.TestCase):
    def counts(self, ships, *limits):
        return [answer[0] for answer in ask_built(ships, [], *[("min_departures", limit) for limit in limits])]

    def test_the_smallest_count_within_the_limit(self):
        self.assertEqual(self.counts(THREE, 0, 1, 2, 3, 4, 6, 7, 8), [3, 3, 3, 2, 2, 2, 1, 1])
        self.assertEqual(
            self.counts(EIGHT_HOURS, 0, 1, 2, 8, 9, 16, 55, 95, 198, 199, 792, 793),
            [8, 8, 7, 7, 6, 5, 4, 3, 3, 2, 2, 1],
        )

    def test_any_limit_is_granted(self):
        self.assertEqual(self.counts(THREE, GREATEST, 3457, 1000), [1, 1, 1])

    def test_one_hour_needs_one_departure(self):
        self.assertEqual(self.counts(ONE_HOUR, 0, GREATEST), [1, 1])

    def test_no_ships(self):
        self.assertEqual(self.counts([], 0, 1, GREATEST), [0, 0, 0])
        self.assertEqual(ask_built([], [3], ("min_departures", 0)), [[0]])


class CheapestCountTest(unittest.TestCase):
    def cheapest(self, ships, *prices):
        return ask_built(ships, [], *[("cheapest_count", price) for price in prices])

    def test_the_smallest_total_cost(self):
        self.assertEqual(self.cheapest(THREE, 1, 2, 5, 20), [[3, 3], [3, 6], [1, 12], [1, 27]])
        self.assertEqual(self.cheapest(EIGHT_HOURS, 8, 50, 500), [[5, 56], [3, 245], [2, 1199]])

    def test_ties_go_to_the_smaller_count(self):
        self.assertEqual(self.cheapest(THREE, 3, 4), [[2, 9], [1, 11]])
        self.assertEqual(self.cheapest(EIGHT_HOURS, 2, 7, 39), [[7, 16], [5, 51], [4, 211]])

    def test_the_edges_of_the_price(self):
        self.assertEqual(self.cheapest(THREE, 0, 999), [[3, 0], [1, 1006]])
        self.assertEqual(self.cheapest(EIGHT_HOURS, 0, 999), [[8, 0], [1, 793 + 999]])
        self.assertEqual(self.cheapest([(0, 9), (24, 1), (48, 9)], 0, 999), [[3, 0], [1, 456 + 999]])
        self.assertEqual(self.cheapest(THREE, 1000, 1001, GREATEST), [[-22]] * 3)

    def test_the_dearest_price_still_pays(self):
        self.assertEqual(self.cheapest([(0, 9)] * 7 + [(48, 1)], 999), [[2, 1998]])

    def test_no_ships(self):
        self.assertEqual(self.cheapest([], 0, 1, 999), [[0, 0]] * 3)
        self.assertEqual(self.cheapest([], 1000, GREATEST), [[-22]] * 2)

    def test_one_hour(self):
        self.assertEqual(self.cheapest(ONE_HOUR, 0, 5), [[1, 0], [1, 5]])


if __name__ == "__main__":
    unittest.main()
