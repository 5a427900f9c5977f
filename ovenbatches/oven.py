"""What an instance holds: an oven's capacity and the list of its products."""


class Product:
    """A product: the range of its temperatures, both ends included, and its number of tins."""

    def __init__(self, min_temperature, max_temperature, tins):
        self.min_temperature = min_temperature
        self.max_temperature = max_temperature
        self.tins = tins


class Oven:
    """An oven: the greatest number of tins in a batch, and its products, none at first."""

    def __init__(self, capacity):
        self.capacity = capacity
        self.products = []
