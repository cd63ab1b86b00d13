"""The operations on an instance; each answers the list of numbers that its call is answered with."""

from convoytimes.codes import ALREADY_THERE, FULL, NOT_SERVED, NO_SUCH, OUT_OF_RANGE
from convoytimes.optimal import arrival_hours, cheapest_choice, optimal_timetable, optimal_waiting, smallest_count
from convoytimes.waiting import first_departure_from, longest_waiting_ship, ships_with_each, weighted_waiting

LAST_HOUR = 48
LEAST_WEIGHT = 1
GREATEST_WEIGHT = 9
MOST_SHIPS = 8
MOST_DEPARTURES = 8
GREATEST_PRICE = 999


def is_hour(number):
    return number <= LAST_HOUR


def is_weight(number):
    return LEAST_WEIGHT <= number <= GREATEST_WEIGHT


def is_departure_count(number):
    return 1 <= number <= MOST_DEPARTURES


def has_ship(instance, ship):
    return ship < len(instance.ships)


def counted_departures(instance):
    """Answers the number of departures, but 1 if there are none: no optimum is asked of fewer."""
    return max(1, len(instance.departures))


def refusal_of_ship(instance, arrival, weight):
    """Answers the code that refuses one more ship, or None if there can be this one."""
    if not is_hour(arrival) or not is_weight(weight):
        return OUT_OF_RANGE
    if len(instance.ships) >= MOST_SHIPS:
        return FULL
    return None


def add_ship(instance, arrival, weight):
    refusal = refusal_of_ship(instance, arrival, weight)
    if refusal is not None:
        return [refusal]
    instance.ships.append((arrival, weight))
    return [len(instance.ships) - 1]


def remove_ship(instance, ship):
    if not has_ship(instance, ship):
        return [NO_SUCH]
    instance.ships.pop(ship)
    return [len(instance.ships)]


def set_arrival(instance, ship, arrival):
    if not has_ship(instance, ship):
        return [NO_SUCH]
    if not is_hour(arrival):
        return [OUT_OF_RANGE]
    old = instance.ships[ship]
    instance.ships[ship] = (arrival, old[1])
    return [old[0]]


def set_weight(instance, ship, weight):
    if not has_ship(instance, ship):
        return [NO_SUCH]
    if not is_weight(weight):
        return [OUT_OF_RANGE]
    old = instance.ships[ship]
    instance.ships[ship] = (old[0], weight)
    return [old[1]]


def list_ships(instance):
    answer = [len(instance.ships)]
    for arrival, weight in instance.ships:
        answer.append(arrival)
        answer.append(weight)
    return answer


def add_departure(instance, hour):
    if not is_hour(hour):
        return [OUT_OF_RANGE]
    if hour in instance.departures:
        return [ALREADY_THERE]
    if len(instance.departures) >= MOST_DEPARTURES:
        return [FULL]
    instance.departures = sorted(instance.departures + [hour])
    return [len(instance.departures)]


def cancel_departure(instance, hour):
    if hour not in instance.departures:
        return [NO_SUCH]
    instance.departures.remove(hour)
    return [len(instance.departures)]


def list_departures(instance):
    return [len(instance.departures)] + instance.departures


def all_served(instance):
    if weighted_waiting(instance.ships, instance.departures) is None:
        return [0]
    return [1]


def total_waiting(instance):
    total = weighted_waiting(instance.ships, instance.departures)
    if total is None:
        return [NOT_SERVED]
    return [total]


def waiting_time(instance, ship):
    if not has_ship(instance, ship):
        return [NO_SUCH]
    arrival = instance.ships[ship][0]
    departure = first_departure_from(instance.departures, arrival)
    if departure is None:
        return [NOT_SERVED]
    return [departure - arrival, departure]


def longest_waiting(instance):
    longest = longest_waiting_ship(instance.ships, instance.departures)
    if longest is None:
        return [NOT_SERVED]
    return list(longest)


def optimal_departures(instance, max_departures):
    if not is_departure_count(max_departures):
        return [OUT_OF_RANGE]
    best = optimal_timetable(instance.ships, max_departures)
    return [best[0]] + list(best[1])


def use_optimal_departures(instance, max_departures):
    if not is_departure_count(max_departures):
        return [OUT_OF_RANGE]
    best = optimal_timetable(instance.ships, max_departures)
    instance.departures = list(best[1])
    return [best[0]]


def excess_waiting(instance):
    total = weighted_waiting(instance.ships, instance.departures)
    if total is None:
        return [NOT_SERVED]
    # Where all ships are served without departures, there are no ships, so the answer is 0 as it should.
    return [total - optimal_waiting(instance.ships, counted_departures(instance))]


def saving_of_departure(instance, k):
    if not 2 <= k <= MOST_DEPARTURES:
        return [OUT_OF_RANGE]
    return [optimal_waiting(instance.ships, k - 1) - optimal_waiting(instance.ships, k)]


def min_departures(instance, limit):
    if len(instance.ships) == 0:
        return [0]
    return [smallest_count(instance.ships, limit)]


def cheapest_count(instance, price):
    if price > GREATEST_PRICE:
        return [OUT_OF_RANGE]
    if len(instance.ships) == 0:
        return [0, 0]
    return list(cheapest_choice(instance.ships, price, MOST_DEPARTURES))


def total_waiting_with(instance, hour):
    if not is_hour(hour):
        return [OUT_OF_RANGE]
    total = weighted_waiting(instance.ships, sorted(instance.departures + [hour]))
    if total is None:
        return [NOT_SERVED]
    return [total]


def next_departure(instance, hour):
    departure = first_departure_from(instance.departures, hour)
    if departure is None:
        return [NOT_SERVED]
    return [departure]


def ships_per_departure(instance):
    return [len(instance.departures)] + ships_with_each(instance.ships, instance.departures)


def optimal_waiting_with_ship(instance, arrival, weight):
    refusal = refusal_of_ship(instance, arrival, weight)
    if refusal is not None:
        return [refusal]
    ships = instance.ships + [(arrival, weight)]
    return [optimal_waiting(ships, counted_departures(instance))]


def optimal_waiting_without_ship(instance, ship):
    if not has_ship(instance, ship):
        return [NO_SUCH]
    ships = instance.ships[:ship] + instance.ships[ship + 1:]
    return [optimal_waiting(ships, counted_departures(instance))]


def summary(instance):
    return [len(instance.ships), len(arrival_hours(instance.ships)), len(instance.departures)]


WITH_NO_PARAMETER = {
    5: list_ships,
    8: list_departures,
    9: all_served,
    10: total_waiting,
    12: longest_waiting,
    15: excess_waiting,
    21: ships_per_departure,
    24: summary,
}

WITH_ONE_PARAMETER = {
    2: remove_ship,
    6: add_departure,
    7: cancel_departure,
    11: waiting_time,
    13: optimal_departures,
    14: use_optimal_departures,
    16: saving_of_departure,
    17: min_departures,
    18: cheapest_count,
    19: total_waiting_with,
    20: next_departure,
    23: optimal_waiting_without_ship,
}

WITH_TWO_PARAMETERS = {
    1: add_ship,
    3: set_arrival,
    4: set_weight,
    22: optimal_waiting_with_ship,
}


def perform(instance, number, parameters):
    """Does the operation of this number on the instance and answers its numbers."""
    if len(parameters) == 0:
        return WITH_NO_PARAMETER[number](instance)
    if len(parameters) == 1:
        return WITH_ONE_PARAMETER[number](instance, parameters[0])
    return WITH_TWO_PARAMETERS[number](instance, parameters[0], parameters[1])
