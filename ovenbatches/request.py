"""One request: its calls are carried out one after another on one instance."""

from ovenbatches.limits import NO_INSTANCE, OUT_OF_RANGE, is_capacity
from ovenbatches.operations import operate
from ovenbatches.oven import Oven

CREATE = 0


class Request:
    """The instance of a request, which is None until a create has succeeded."""

    def __init__(self):
        self.instance = None

    def create(self, capacity):
        """Put a new instance in the place of the one there may be."""
        if not is_capacity(capacity):
            return [OUT_OF_RANGE]
        self.instance = Oven(capacity)
        return [0]

    def answer(self, number, numbers):
        """Carry out a call, given as its number and the list of its numbers; give back what is answered."""
        if number == CREATE:
            return self.create(numbers[0])
        if self.instance is None:
            return [NO_INSTANCE]
        return operate(self.instance, number, numbers)
