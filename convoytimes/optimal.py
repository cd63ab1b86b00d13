"""The departures that make the ships wait least, with a limited number of convoys."""

from convoytimes.waiting import weighted_waiting


def arrival_hours(ships):
    """Answers the different hours at which ships arrive, in increasing order."""
    return sorted(set([arrival for arrival, weight in ships]))


def waiting_for(ships, first_hour, departure):
    """Answers the total waiting of the ships that arrive from the first hour on, but not after the departure."""
    group = [ship for ship in ships if first_hour <= ship[0] <= departure]
    return weighted_waiting(group, [departure])


def with_one_departure(ships, hours):
    """Answers for each place in the hours the total waiting from there on with one departure, and this departure."""
    nothing_to_serve = (0, ())
    return [(waiting_for(ships, hour, hours[-1]), (hours[-1],)) for hour in hours] + [nothing_to_serve]


def with_another_departure(ships, hours, best):
    """Answers for each place in the hours what is best from there on with one departure more than best grants."""
    better = []
    for first in range(len(hours)):
        choices = []
        for place in range(first, len(hours)):
            later = best[place + 1]
            waiting = waiting_for(ships, hours[first], hours[place]) + later[0]
            choices.append((waiting, (hours[place],) + later[1]))
        # The hours stand behind the waiting, so ties go to the lexicographically smallest of them.
        better.append(min(choices))
    nothing_to_serve = best[len(hours)]
    return better + [nothing_to_serve]


def optimal_timetable(ships, count):
    """Answers the smallest total waiting with at most this many departures, at least 1, and these departures."""
    hours = arrival_hours(ships)
    # best[place] serves the ships that arrive at hours[place] or later; behind the last hour there are none.
    best = with_one_departure(ships, hours)
    for further in range(1, count):
        best = with_another_departure(ships, hours, best)
    return best[0]


def optimal_waiting(ships, count):
    """Answers the smallest total waiting with at most this many departures, 0 without ships."""
    return optimal_timetable(ships, count)[0]


def smallest_count(ships, limit):
    """Answers the smallest number of departures with which the optimal waiting is within the limit."""
    count = 1
    # It ends, since nobody waits with as many departures as arrival hours.
    while optimal_waiting(ships, count) > limit:
        count += 1
    return count


def cheapest_choice(ships, price, most):
    """Answers the number of departures, up to most, with the smallest total cost, and this cost."""
    costs = [(optimal_waiting(ships, count) + price * count, count) for count in range(1, most + 1)]
    # The count stands behind the cost, so ties go to the smaller count.
    cheapest = min(costs)
    return (cheapest[1], cheapest[0])
