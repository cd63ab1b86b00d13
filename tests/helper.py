"""Writes calls by their names and reads answers call by call."""

from convoytimes.timetable import answers

NAMES = (
    "create", "add_ship", "remove_ship", "set_arrival", "set_weight", "list_ships",
    "add_departure", "cancel_departure", "list_departures", "all_served", "total_waiting",
    "waiting_time", "longest_waiting", "optimal_departures", "use_optimal_departures",
    "excess_waiting", "saving_of_departure", "min_departures", "cheapest_count",
    "total_waiting_with", "next_departure", "ships_per_departure", "optimal_waiting_with_ship",
    "optimal_waiting_without_ship", "summary",
)

GREATEST = 4294967295


def written(calls):
    """The one list of numbers for calls such as ("add_ship", 2, 1)."""
    numbers = []
    for name, *parameters in calls:
        numbers += [NAMES.index(name), *parameters]
    return numbers


def split(numbers):
    """One list for each answer; fails if the counts do not fit the numbers."""
    parts = []
    position = 0
    while position < len(numbers):
        end = position + 1 + numbers[position]
        if end > len(numbers):
            raise AssertionError(f"a count goes beyond the end: {numbers}")
        parts.append(numbers[position + 1:end])
        position = end
    return parts


def ask(*calls):
    """The answers to the calls, one list for each call."""
    parts = split(answers(written(calls)))
    if len(parts) != len(calls):
        raise AssertionError(f"{len(calls)} calls, but {len(parts)} answers")
    return parts


def built(ships, departures):
    """The calls that make an instance with these ships and departures."""
    return (
        [("create",)]
        + [("add_ship", arrival, weight) for arrival, weight in ships]
        + [("add_departure", hour) for hour in departures]
    )


def ask_built(ships, departures, *calls):
    """The answers to the calls alone, asked of an instance with these ships and departures."""
    before = built(ships, departures)
    return ask(*before, *calls)[len(before):]
