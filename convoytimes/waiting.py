"""How long ships wait; departures are always handed in in increasing order."""


def first_departure_from(departures, hour):
    """Answers the smallest departure at or after the hour, or None if there is none."""
    for departure in departures:
        if departure >= hour:
            return departure
    return None


def waiting_from(departures, arrival):
    """Answers how long a ship that arrives at this hour waits, or None if it is not served."""
    departure = first_departure_from(departures, arrival)
    if departure is None:
        return None
    return departure - arrival


def weighted_waiting(ships, departures):
    """Answers the total waiting, or None if some ship is not served."""
    total = 0
    for arrival, weight in ships:
        waiting = waiting_from(departures, arrival)
        if waiting is None:
            return None
        total += weight * waiting
    return total


def longest_waiting_ship(ships, departures):
    """Answers the served ship that waits longest and its waiting time, or None if no ship is served."""
    longest = None
    for ship in range(len(ships)):
        waiting = waiting_from(departures, ships[ship][0])
        if waiting is None:
            continue
        # Only a longer waiting takes the place of an earlier ship, so ties stay with the smaller number.
        if longest is None or waiting > longest[1]:
            longest = (ship, waiting)
    return longest


def ships_with_each(ships, departures):
    """Answers, for each departure, how many ships leave with it."""
    taken = [first_departure_from(departures, arrival) for arrival, weight in ships]
    return [taken.count(departure) for departure in departures]
