"""all_served, total_waiting, waiting_time and longest_waiting."""

import itertools
import unittest

from tests.helper import GREATEST, ask_built


def served_and_total(ships, departures):
    served, total = ask_built(ships, departures, ("all_served",), ("total_waiting",))
    return served + total


class AllServedAndTotalWaitingTest(unittest.TestCase):
    def test_no_ships(self):
        self.assertEqual(served_and_total([], []), [1, 0])
        self.assertEqual(served_and_total([], [4, 9]), [1, 0])

    def test_no_departures(self):
        self.assertEqual(served_and_total([(0, 1)], []), [0, -33])
        self.assertEqual(served_and_total([(3, 2), (48, 9)], []), [0, -33])

    def test_a_ship_at_a_departures_own_hour_does_not_wait(self):
        for hour in (0, 7, 48):
            with self.subTest(hour=hour):
                self.assertEqual(served_and_total([(hour, 9)], [hour]), [1, 0])

    def test_a_ship_after_the_last_departure(self):
        self.assertEqual(served_and_total([(8, 1)], [3, 7]), [0, -33])
        self.assertEqual(served_and_total([(1, 1), (8, 1), (2, 1)], [3, 7]), [0, -33])
        self.assertEqual(served_and_total([(48, 1)], [47]), [0, -33])

    def test_each_ship_leaves_with_the_first_departure_from_its_arrival(self):
        self.assertEqual(served_and_total([(2, 1), (5, 3), (6, 1)], [9, 5]), [1, 3 + 0 + 3])
        self.assertEqual(served_and_total([(2, 1), (5, 3), (6, 1)], [6]), [1, 4 + 3 + 0])

    def test_every_ship_of_the_same_hour_is_counted(self):
        self.assertEqual(served_and_total([(4, 2), (4, 3), (4, 2)], [10]), [1, 6 * 7])

    def test_the_greatest_total(self):
        self.assertEqual(served_and_total([(0, 9)] * 8, [48]), [1, 8 * 9 * 48])

    def test_it_follows_the_changes(self):
        self.assertEqual(
            ask_built(
                [(2, 1), (5, 3)], [6],
                ("total_waiting",), ("set_weight", 0, 9), ("total_waiting",), ("set_arrival", 1, 7),
                ("total_waiting",), ("all_served",), ("add_departure", 8), ("total_waiting",), ("all_served",),
                ("remove_ship", 0), ("total_waiting",), ("cancel_departure", 8), ("total_waiting",),
            ),
            [[7], [1], [39], [5], [-33], [0], [2], [36 + 3], [1], [1], [3], [1], [-33]],
        )

    def test_by_the_words_of_the_document(self):
        hours = (0, 1, 2, 47, 48)
        weights = (1, 9, 4)
        for count in range(4):
            for arrivals in itertools.product(hours, repeat=count):
                ships = list(zip(arrivals, weights))
                for departures in ([], [0], [48, 1], [2, 0], [47]):
                    waits = [min([d - a for d in departures if d >= a], default=None) for a, weight in ships]
                    expected = [0, -33]
                    if None not in waits:
                        expected = [1, sum(ship[1] * wait for ship, wait in zip(ships, waits))]
                    with self.subTest(ships=ships, departures=departures):
                        self.assertEqual(served_and_total(ships, departures), expected)


class WaitingTimeTest(unittest.TestCase):
    def test_the_waiting_time_is_not_weighted(self):
        self.assertEqual(
            ask_built([(2, 9), (5, 1), (6, 5)], [5, 20], *[("waiting_time", ship) for ship in range(3)]),
            [[3, 5], [0, 5], [14, 20]],
        )

    def test_the_edges(self):
        self.assertEqual(
            ask_built([(0, 1), (48, 1)], [48], ("waiting_time", 0), ("waiting_time", 1)),
            [[48, 48], [0, 48]],
        )
        self.assertEqual(ask_built([(0, 1)], [0], ("waiting_time", 0)), [[0, 0]])

    def test_no_such_ship(self):
        for ship in (2, 3, 8, GREATEST):
            with self.subTest(ship=ship):
                self.assertEqual(ask_built([(2, 1), (3, 1)], [9], ("waiting_time", ship)), [[-2]])

    def test_not_served(self):
        self.assertEqual(
            ask_built([(2, 1), (6, 1)], [5], ("waiting_time", 0), ("waiting_time", 1)),
            [[3, 5], [-33]],
        )
        self.assertEqual(ask_built([(2, 1)], [], ("waiting_time", 0)), [[-33]])

    def test_no_such_ship_is_checked_ahead_of_not_served(self):
        self.assertEqual(ask_built([(6, 1)], [5], ("waiting_time", 1)), [[-2]])
        self.assertEqual(ask_built([(6, 1)], [], ("waiting_time", GREATEST)), [[-2]])
        self.assertEqual(ask_built([], [], ("waiting_time", 0)), [[-2]])


class LongestWaitingTest(unittest.TestCase):
    def longest(self, ships, departures):
        return ask_built(ships, departures, ("longest_waiting",))[0]

    def test_the_ship_that_waits_longest(self):
        self.assertEqual(self.longest([(5, 1), (2, 1), (6, 1)], [9]), [1, 7])
        self.assertEqual(self.longest([(5, 1), (6, 1), (2, 1)], [9]), [2, 7])
        self.assertEqual(self.longest([(2, 1), (5, 1), (6, 1)], [9]), [0, 7])

    def test_weights_do_not_count(self):
        self.assertEqual(self.longest([(5, 9), (2, 1), (6, 9)], [9]), [1, 7])

    def test_a_later_ship_of_a_later_departure(self):
        self.assertEqual(self.longest([(2, 1), (6, 1)], [5, 20]), [1, 14])

    def test_ties_go_to_the_smaller_number(self):
        self.assertEqual(self.longest([(8, 1), (2, 1), (2, 9), (12, 9)], [9, 19]), [1, 7])
        self.assertEqual(self.longest([(9, 1), (4, 2)], [4, 9]), [0, 0])

    def test_ships_that_are_not_served_among_the_others(self):
        self.assertEqual(self.longest([(30, 1), (2, 1), (31, 1), (1, 1), (48, 1)], [9]), [3, 8])
        self.assertEqual(self.longest([(30, 1), (9, 1), (48, 1)], [9]), [1, 0])

    def test_no_ship_is_served(self):
        self.assertEqual(self.longest([(10, 1), (48, 1)], [9]), [-33])
        self.assertEqual(self.longest([(10, 1)], []), [-33])
        self.assertEqual(self.longest([], [9]), [-33])
        self.assertEqual(self.longest([], []), [-33])

    def test_the_edges(self):
        self.assertEqual(self.longest([(48, 1), (0, 1)], [48]), [1, 48])


if __name__ == "__main__":
    unittest.main()
