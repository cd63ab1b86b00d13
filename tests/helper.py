"""Writes calls by their names and reads answers call by call."""

import itertools

from convoytimes.timetable import answers

NAMES = (
    "create", "add_ship", "remove_ship", "set_arrival", "set_weight", "list_ships",
    "add_departure", "cancel_departure", "list_departures", "all_served", "total_waiting",
    "waiting_time", "longest_waiting", "optimal_departures", "use_optimal_departures",
    "excess_waiting", "saving_of_departure", "min_departures", "cheapest_count",
    "total_waiting_with", "next_departure", "ships_per_departure", "optimal_waiting_with_ship",
    "optimal_waiting_without_ship", "summary",
)

GREATEST = 4294967295


def written(calls):
    """The one list of numbers for calls such as ("add_ship", 2, 1)."""
    numbers = []
    for name, *parameters in calls:
        numbers += [NAMES.index(name), *parameters]
    return numbers


def split(numbers):
    """One list for each answer; fails if the counts do not fit the numbers."""
    parts = []
    position = 0
    while position < len(numbers):
        end = position + 1 + numbers[position]
        if end > len(numbers):
            raise AssertionError(f"a count goes beyond the end: {numbers}")
        parts.append(numbers[position + 1:end])
        position = end
    return parts


def ask(*calls):
    """The answers to the calls, one list for each call."""
    parts = split(answers(written(calls)))
    if len(parts) != len(calls):
        raise AssertionError(f"{len(calls)} calls, but {len(parts)} answers")
    return parts


def built(ships, departures):
    """The calls that make an instance with these ships and departures."""
    return (
        [("create",)]
        + [("add_ship", arrival, weight) for arrival, weight in ships]
        + [("add_departure", hour) for hour in departures]
    )


def ask_built(ships, departures, *calls):
    """The answers to the calls alone, asked of an instance with these ships and departures."""
    before = built(ships, departures)
    return ask(*before, *calls)[len(before):]


def total_by_the_words(ships, departures):
    """The total waiting as the document words it, or None if some ship is not served."""
    total = 0
    for arrival, weight in ships:
        later = [hour for hour in departures if hour >= arrival]
        if not later:
            return None
        total += weight * (min(later) - arrival)
    return total


def best_by_trying(ships, most, hours):
    """The smallest (total, list) of all increasing lists of at most this many of the hours that serve all ships."""
    tried = []
    for count in range(most + 1):
        for departures in itertools.combinations(sorted(hours), count):
            total = total_by_the_words(ships, departures)
            if total is not None:
                tried.append((total, list(departures)))
    return min(tried)


def small_sets():
    """Many small lists of ships at the hours 0 to 6, with equal and with unequal weights."""
    for count in range(5):
        for arrivals in itertools.combinations_with_replacement((0, 1, 3, 4, 6), count):
            for weights in ((1, 1, 1, 1), (9, 1, 3, 1), (2, 5, 1, 9)):
                yield list(zip(arrivals, weights))


# Ships in no order of hours, at 8 different hours, at one hour, at the ends of the day, with equal distances.
LARGE_SETS = (
    [(48, 2), (3, 9), (20, 1), (21, 4), (0, 1), (33, 7), (20, 6), (47, 5)],
    [(0, 3), (6, 1), (13, 9), (20, 2), (21, 7), (33, 1), (40, 4), (48, 5)],
    [(7, 1), (6, 1), (5, 1), (4, 1), (3, 1), (2, 1), (1, 1), (0, 1)],
    [(12, 9), (12, 1), (12, 4), (12, 4), (12, 2), (12, 3), (12, 9), (12, 9)],
    [(0, 9), (48, 9), (0, 1), (48, 1)],
    [(40, 2), (10, 2), (30, 2), (20, 2), (0, 2)],
)
