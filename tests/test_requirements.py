"""The points 1 to 5 of "Requirements", over many small lists of ships and some large ones."""

import unittest

from tests.helper import LARGE_SETS, ask_built, best_by_trying, small_sets, total_by_the_words

COUNTS = range(1, 9)
# Beyond the last arrival of the small sets, so that departures at hours without a ship are tried, too.
SMALL_HOURS = range(8)


def all_sets():
    return [*small_sets(), *LARGE_SETS]


def asked_for_each(ships, name, counts):
    return ask_built(ships, [], *[(name, count) for count in counts])


def optimal_waitings(ships):
    """The optimal waiting for each number of departures from 1 to 8."""
    return [answer[0] for answer in asked_for_each(ships, "optimal_departures", COUNTS)]


class OptimalityTest(unittest.TestCase):
    def test_no_list_of_hours_is_better(self):
        for ships in small_sets():
            for count, answer in zip(COUNTS, asked_for_each(ships, "optimal_departures", COUNTS)):
                with self.subTest(ships=ships, count=count):
                    # A fifth hour can't help four ships, so longer lists need no trying.
                    self.assertEqual(answer[0], best_by_trying(ships, min(count, 4), SMALL_HOURS)[0])

    def test_no_list_of_all_hours_of_the_day_is_better(self):
        for ships in LARGE_SETS:
            for count, answer in zip((1, 2), asked_for_each(ships, "optimal_departures", (1, 2))):
                with self.subTest(ships=ships, count=count):
                    self.assertEqual(answer[0], best_by_trying(ships, count, range(49))[0])

    def test_the_departures_are_the_lexicographically_smallest_of_the_best(self):
        for ships in all_sets():
            hours = {arrival for arrival, weight in ships}
            for count, answer in zip(COUNTS, asked_for_each(ships, "optimal_departures", COUNTS)):
                with self.subTest(ships=ships, count=count):
                    total, departures = best_by_trying(ships, count, hours)
                    self.assertEqual(answer, [total] + departures)

    def test_the_departures_serve_all_ships_with_exactly_this_total(self):
        for ships in all_sets():
            for count in COUNTS:
                with self.subTest(ships=ships, count=count):
                    used, served, total, departures = ask_built(
                        ships, [20, 48],
                        ("use_optimal_departures", count), ("all_served",), ("total_waiting",), ("list_departures",),
                    )
                    self.assertEqual(served, [1])
                    self.assertEqual(total, used)
                    self.assertEqual(total, [total_by_the_words(ships, departures[1:])])
                    self.assertLessEqual(departures[0], count)


class DiminishingSavingsTest(unittest.TestCase):
    def test_each_further_departure_saves_at_most_as_much(self):
        for ships in all_sets():
            with self.subTest(ships=ships):
                savings = [answer[0] for answer in asked_for_each(ships, "saving_of_departure", range(2, 9))]
                self.assertEqual(savings, sorted(savings, reverse=True))
                self.assertGreaterEqual(savings[-1], 0)

    def test_a_saving_is_the_difference_of_two_optima(self):
        for ships in all_sets():
            with self.subTest(ships=ships):
                waitings = optimal_waitings(ships)
                savings = [answer[0] for answer in asked_for_each(ships, "saving_of_departure", range(2, 9))]
                self.assertEqual(savings, [waitings[k - 2] - waitings[k - 1] for k in range(2, 9)])


class DeparturesAtArrivalsTest(unittest.TestCase):
    def test_every_optimal_departure_is_an_arrival_hour(self):
        for ships in all_sets():
            hours = {arrival for arrival, weight in ships}
            for answer in asked_for_each(ships, "optimal_departures", COUNTS):
                with self.subTest(ships=ships, answer=answer):
                    self.assertLessEqual(set(answer[1:]), hours)
                    self.assertEqual(answer[1:], sorted(set(answer[1:])))


class BoundsTest(unittest.TestCase):
    def test_with_as_many_departures_as_arrival_hours_nobody_waits(self):
        for ships in all_sets():
            with self.subTest(ships=ships):
                hours = sorted({arrival for arrival, weight in ships})
                most = max(1, len(hours))
                answer, fewer = ask_built(
                    ships, [], ("optimal_departures", most), ("optimal_departures", max(1, most - 1)),
                )
                self.assertEqual(answer, [0] + hours)
                if most > 1:
                    self.assertGreater(fewer[0], 0)

    def test_removing_a_ship_never_increases_the_optimal_waiting(self):
        for ships in all_sets():
            waitings = optimal_waitings(ships)
            for ship in range(len(ships)):
                with self.subTest(ships=ships, ship=ship):
                    asked = [("optimal_departures", count) for count in COUNTS]
                    removed = ask_built(ships, [], ("remove_ship", ship), *asked)[1:]
                    for answer, waiting in zip(removed, waitings):
                        self.assertLessEqual(answer[0], waiting)

    def test_a_ship_more_or_less_as_if_it_were_so(self):
        for ships in LARGE_SETS:
            for departures in ([], [9], [1, 2], [0, 10, 20, 30, 48], range(8)):
                count = max(1, len(departures))
                for ship in range(len(ships)):
                    with self.subTest(ships=ships, departures=departures, ship=ship):
                        others = ships[:ship] + ships[ship + 1:]
                        self.assertEqual(
                            ask_built(ships, departures, ("optimal_waiting_without_ship", ship)),
                            [[optimal_waitings(others)[count - 1]]],
                        )
                        self.assertEqual(
                            ask_built(others, departures, ("optimal_waiting_with_ship", *ships[ship])),
                            [[optimal_waitings(ships)[count - 1]]],
                        )

    def test_no_timetable_is_better_than_the_optimum_for_as_many_departures(self):
        for ships in small_sets():
            waitings = optimal_waitings(ships)
            for departures in ([6], [3, 7], [1, 4, 6], [0, 2, 5, 7, 48]):
                with self.subTest(ships=ships, departures=departures):
                    excess = total_by_the_words(ships, departures) - waitings[len(departures) - 1]
                    self.assertGreaterEqual(excess, 0)
                    self.assertEqual(ask_built(ships, departures, ("excess_waiting",)), [[excess]])


class CheapestCountTest(unittest.TestCase):
    def test_no_count_costs_less_and_no_smaller_count_as_little(self):
        for ships in all_sets():
            if not ships:
                continue
            waitings = optimal_waitings(ships)
            prices = (0, 1, 2, 3, 5, 9, 14, 40, 104, 999)
            for price, answer in zip(prices, asked_for_each(ships, "cheapest_count", prices)):
                with self.subTest(ships=ships, price=price):
                    costs = [waitings[count - 1] + price * count for count in COUNTS]
                    self.assertEqual(answer, [1 + costs.index(min(costs)), min(costs)])


class MinDeparturesTest(unittest.TestCase):
    def test_the_first_count_within_the_limit(self):
        for ships in all_sets():
            if not ships:
                continue
            waitings = optimal_waitings(ships)
            limits = sorted({max(0, waiting + step) for waiting in waitings for step in (-1, 0, 1)})
            for limit, answer in zip(limits, asked_for_each(ships, "min_departures", limits)):
                with self.subTest(ships=ships, limit=limit):
                    within = [count for count in COUNTS if waitings[count - 1] <= limit]
                    self.assertEqual(answer, [within[0]])


if __name__ == "__main__":
    unittest.main()
