"""Answers a list of calls on one timetable."""

from convoytimes.codes import NO_INSTANCE
from convoytimes.operations import perform
from convoytimes.state import Instance

CREATE = 0

# All calls of the interface stand here, so that each of them can be refused while there is no instance.
PARAMETER_COUNTS = (0, 2, 1, 2, 2, 0, 1, 1, 0, 0, 0, 1, 0, 1, 1, 0, 1, 1, 1, 1, 1, 0, 2, 1, 0)


def answers(calls):
    """Does the calls one after another and answers, for each, how many numbers it gives and these."""
    instance = None
    given_back = []
    position = 0
    while position < len(calls):
        number = calls[position]
        end = position + 1 + PARAMETER_COUNTS[number]
        parameters = calls[position + 1:end]
        if number == CREATE:
            instance = Instance()
            answer = [0]
        elif instance is None:
            answer = [NO_INSTANCE]
        else:
            answer = perform(instance, number, parameters)
        given_back.append(len(answer))
        given_back.extend(answer)
        position = end
    return given_back
