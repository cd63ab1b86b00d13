"""The operations on an instance; each answers the list of numbers that its call is answered with."""

from convoytimes.codes import ALREADY_THERE, FULL, NOT_SERVED, NO_SUCH, OUT_OF_RANGE
from convoytimes.waiting import first_departure_from, longest_waiting_ship, weighted_waiting

LAST_HOUR = 48
LEAST_WEIGHT = 1
GREATEST_WEIGHT = 9
MOST_SHIPS = 8
MOST_DEPARTURES = 8


def is_hour(number):
    return number <= LAST_HOUR


def is_weight(number):
    return LEAST_WEIGHT <= number <= GREATEST_WEIGHT


def has_ship(instance, ship):
    return ship < len(instance.ships)


def add_ship(instance, arrival, weight):
    if not is_hour(arrival) or not is_weight(weight):
        return [OUT_OF_RANGE]
    if len(instance.ships) >= MOST_SHIPS:
        return [FULL]
    instance.ships.append((arrival, weight))
    return [len(instance.ships) - 1]


def remove_ship(instance, ship):
    if not has_ship(instance, ship):
        return [NO_SUCH]
    instance.ships.pop(ship)
    return [len(instance.ships)]


def set_arrival(instance, ship, arrival):
    if not has_ship(instance, ship):
        return [NO_SUCH]
    if not is_hour(arrival):
        return [OUT_OF_RANGE]
    old = instance.ships[ship]
    instance.ships[ship] = (arrival, old[1])
    return [old[0]]


def set_weight(instance, ship, weight):
    if not has_ship(instance, ship):
        return [NO_SUCH]
    if not is_weight(weight):
        return [OUT_OF_RANGE]
    old = instance.ships[ship]
    instance.ships[ship] = (old[0], weight)
    return [old[1]]


def list_ships(instance):
    answer = [len(instance.ships)]
    for arrival, weight in instance.ships:
        answer.append(arrival)
        answer.append(weight)
    return answer


def add_departure(instance, hour):
    if not is_hour(hour):
        return [OUT_OF_RANGE]
    if hour in instance.departures:
        return [ALREADY_THERE]
    if len(instance.departures) >= MOST_DEPARTURES:
        return [FULL]
    instance.departures = sorted(instance.departures + [hour])
    return [len(instance.departures)]


def cancel_departure(instance, hour):
    if hour not in instance.departures:
        return [NO_SUCH]
    instance.departures.remove(hour)
    return [len(instance.departures)]


def list_departures(instance):
    return [len(instance.departures)] + instance.departures


def all_served(instance):
    if weighted_waiting(instance.ships, instance.departures) is None:
        return [0]
    return [1]


def total_waiting(instance):
    total = weighted_waiting(instance.ships, instance.departures)
    if total is None:
        return [NOT_SERVED]
    return [total]


def waiting_time(instance, ship):
    if not has_ship(instance, ship):
        return [NO_SUCH]
    arrival = instance.ships[ship][0]
    departure = first_departure_from(instance.departures, arrival)
    if departure is None:
        return [NOT_SERVED]
    return [departure - arrival, departure]


def longest_waiting(instance):
    longest = longest_waiting_ship(instance.ships, instance.departures)
    if longest is None:
        return [NOT_SERVED]
    return list(longest)


WITH_NO_PARAMETER = {
    5: list_ships,
    8: list_departures,
    9: all_served,
    10: total_waiting,
    12: longest_waiting,
}

WITH_ONE_PARAMETER = {
    2: remove_ship,
    6: add_departure,
    7: cancel_departure,
    11: waiting_time,
}

WITH_TWO_PARAMETERS = {
    1: add_ship,
    3: set_arrival,
    4: set_weight,
}


def perform(instance, number, parameters):
    """Does the operation of this number on the instance and answers its numbers."""
    if len(parameters) == 0:
        return WITH_NO_PARAMETER[number](instance)
    if len(parameters) == 1:
        return WITH_ONE_PARAMETER[number](instance, parameters[0])
    return WITH_TWO_PARAMETERS[number](instance, parameters[0], parameters[1])
