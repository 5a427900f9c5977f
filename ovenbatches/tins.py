"""The interface: the calls of a request go in as one list of numbers, their answers come out as another."""

from ovenbatches.request import Request

# How many numbers follow a call's own number, from create to temperatures.
PARAMETER_COUNTS = (1, 3, 2, 3, 1, 1, 0, 1, 0)


def answers(calls):
    """Carry out calls on a new object; give back, for each, how many numbers are answered, then these."""
    request = Request()
    answered = []
    at = 0
    while at < len(calls):
        number = calls[at]
        end = at + 1 + PARAMETER_COUNTS[number]
        answer = request.answer(number, calls[at + 1:end])
        answered.append(len(answer))
        answered.extend(answer)
        at = end
    return answered
