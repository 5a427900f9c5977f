"""The interface: the calls of a request go in as one list of numbers, their answers come out as another."""

from ovenbatches.request import Request

CHECK_BATCHES = 15

# How many numbers follow a call's own number, from create to describe; of check_batches, ahead of its list.
PARAMETER_COUNTS = (1, 3, 2, 3, 1, 1, 0, 1, 0, 1, 1, 2, 1, 2, 1, 1, 0)


def end_of_call(calls, at):
    """The place behind the last number of the call that begins at a place."""
    number = calls[at]
    end = at + 1 + PARAMETER_COUNTS[number]
    if number == CHECK_BATCHES:
        return end + calls[at + 1]
    return end


def answers(calls):
    """Carry out calls on a new object; give back, for each, how many numbers are answered, then these."""
    request = Request()
    answered = []
    at = 0
    while at < len(calls):
        end = end_of_call(calls, at)
        answer = request.answer(calls[at], calls[at + 1:end])
        answered.append(len(answer))
        answered.extend(answer)
        at = end
    return answered
