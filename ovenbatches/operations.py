"""The operations on an instance: each takes it and a list of the call's numbers, and answers a list of numbers.

An operation checks all its parameters before it changes anything, so that an error leaves the instance unchanged.
"""

from ovenbatches.limits import MISSING, MOST_PRODUCTS, OUT_OF_RANGE, TOO_MANY_PRODUCTS
from ovenbatches.limits import is_capacity, is_number_of_tins, is_temperature_range
from ovenbatches.oven import Product
from ovenbatches.plan import planned_batches


def has_product(oven, i):
    """Tell whether product i exists."""
    return 0 <= i < len(oven.products)


def batches_of(oven):
    """The planned batches of an oven as it stands."""
    return planned_batches(oven.products, oven.capacity)


def add_product(oven, numbers):
    """Append a product; answer its index."""
    min_temperature = numbers[0]
    max_temperature = numbers[1]
    tins = numbers[2]
    if not is_temperature_range(min_temperature, max_temperature) or not is_number_of_tins(tins):
        return [OUT_OF_RANGE]
    if len(oven.products) == MOST_PRODUCTS:
        return [TOO_MANY_PRODUCTS]
    oven.products.append(Product(min_temperature, max_temperature, tins))
    return [len(oven.products) - 1]


def set_tins(oven, numbers):
    """Change a product's number of tins; answer the previous one."""
    i = numbers[0]
    tins = numbers[1]
    if not has_product(oven, i):
        return [MISSING]
    if not is_number_of_tins(tins):
        return [OUT_OF_RANGE]
    old = oven.products[i]
    oven.products[i] = Product(old.min_temperature, old.max_temperature, tins)
    return [old.tins]


def set_temperatures(oven, numbers):
    """Change a product's temperature range; answer 0 and the previous one."""
    i = numbers[0]
    min_temperature = numbers[1]
    max_temperature = numbers[2]
    if not has_product(oven, i):
        return [MISSING]
    if not is_temperature_range(min_temperature, max_temperature):
        return [OUT_OF_RANGE]
    old = oven.products[i]
    oven.products[i] = Product(min_temperature, max_temperature, old.tins)
    return [0, old.min_temperature, old.max_temperature]


def remove_product(oven, numbers):
    """Remove a product; answer how many remain."""
    i = numbers[0]
    if not has_product(oven, i):
        return [MISSING]
    oven.products.pop(i)
    return [len(oven.products)]


def set_capacity(oven, numbers):
    """Change the capacity; answer the previous one."""
    capacity = numbers[0]
    if not is_capacity(capacity):
        return [OUT_OF_RANGE]
    old = oven.capacity
    oven.capacity = capacity
    return [old]


def min_batches(oven, numbers):
    """Answer the number of planned batches."""
    return [len(batches_of(oven))]


def batch(oven, numbers):
    """Answer a planned batch: its temperature, then its number of tins of each product."""
    k = numbers[0]
    batches = batches_of(oven)
    if not 0 <= k < len(batches):
        return [MISSING]
    return [batches[k][0]] + batches[k][1]


def temperatures(oven, numbers):
    """Answer the number of planned batches, then their temperatures."""
    batches = batches_of(oven)
    return [len(batches)] + [planned[0] for planned in batches]


OPERATIONS = {
    1: add_product,
    2: set_tins,
    3: set_temperatures,
    4: remove_product,
    5: set_capacity,
    6: min_batches,
    7: batch,
    8: temperatures,
}


def operate(oven, number, numbers):
    """Carry out the operation of a call's number on an instance; answer what it answers."""
    operation = OPERATIONS[number]
    return operation(oven, numbers)
