"""The operations on an instance: each takes it and a list of the call's numbers, and answers a list of numbers.

An operation checks all its parameters before it changes anything, so that an error leaves the instance unchanged.
"""

from ovenbatches.limits import MISSING, MOST_PRODUCTS, OUT_OF_RANGE, TOO_MANY_PRODUCTS
from ovenbatches.limits import is_capacity, is_number_of_tins, is_temperature, is_temperature_range
from ovenbatches.order import order_of_least_change, total_change
from ovenbatches.oven import Product
from ovenbatches.plan import all_tins, filled_batch, have_a_shared_temperature, planned_batches
from ovenbatches.solution import batches_in, is_list_of_batches, is_solution


def has_product(oven, i):
    """Tell whether product i exists."""
    return 0 <= i < len(oven.products)


def batches_of(oven):
    """The planned batches of an oven as it stands."""
    return planned_batches(oven.products, oven.capacity)


def planned_temperatures(oven):
    """The temperatures of the planned batches in the order of their numbers."""
    return [planned[0] for planned in batches_of(oven)]


def with_tins(products, i, tins):
    """A copy of a list of products in which product i has this many tins."""
    changed = list(products)
    changed[i] = Product(products[i].min_temperature, products[i].max_temperature, tins)
    return changed


def add_product(oven, numbers):
    """Append a product; answer its index."""
    min_temperature = numbers[0]
    max_temperature = numbers[1]
    tins = numbers[2]
    if not is_temperature_range(min_temperature, max_temperature) or not is_number_of_tins(tins):
        return [OUT_OF_RANGE]
    if len(oven.products) == MOST_PRODUCTS:
        return [TOO_MANY_PRODUCTS]
    oven.products.append(Product(min_temperature, max_temperature, tins))
    return [len(oven.products) - 1]


def set_tins(oven, numbers):
    """Change a product's number of tins; answer the previous one."""
    i = numbers[0]
    tins = numbers[1]
    if not has_product(oven, i):
        return [MISSING]
    if not is_number_of_tins(tins):
        return [OUT_OF_RANGE]
    old = oven.products[i].tins
    oven.products = with_tins(oven.products, i, tins)
    return [old]


def set_temperatures(oven, numbers):
    """Change a product's temperature range; answer 0 and the previous one."""
    i = numbers[0]
    min_temperature = numbers[1]
    max_temperature = numbers[2]
    if not has_product(oven, i):
        return [MISSING]
    if not is_temperature_range(min_temperature, max_temperature):
        return [OUT_OF_RANGE]
    old = oven.products[i]
    oven.products[i] = Product(min_temperature, max_temperature, old.tins)
    return [0, old.min_temperature, old.max_temperature]


def remove_product(oven, numbers):
    """Remove a product; answer how many remain."""
    i = numbers[0]
    if not has_product(oven, i):
        return [MISSING]
    oven.products.pop(i)
    return [len(oven.products)]


def set_capacity(oven, numbers):
    """Change the capacity; answer the previous one."""
    capacity = numbers[0]
    if not is_capacity(capacity):
        return [OUT_OF_RANGE]
    old = oven.capacity
    oven.capacity = capacity
    return [old]


def min_batches(oven, numbers):
    """Answer the number of planned batches."""
    return [len(batches_of(oven))]


def batch(oven, numbers):
    """Answer a planned batch: its temperature, then its number of tins of each product."""
    k = numbers[0]
    batches = batches_of(oven)
    if not 0 <= k < len(batches):
        return [MISSING]
    return [batches[k][0]] + batches[k][1]


def temperatures(oven, numbers):
    """Answer the number of planned batches, then their temperatures."""
    planned = planned_temperatures(oven)
    return [len(planned)] + planned


def best_order(oven, numbers):
    """Answer the total change of the best order, then the temperatures in this order."""
    start = numbers[0]
    if not is_temperature(start):
        return [OUT_OF_RANGE]
    order = order_of_least_change(start, planned_temperatures(oven))
    return [total_change(start, order)] + order


def min_change(oven, numbers):
    """Answer the smallest total change of any order."""
    # No order changes less than the best one, and both calls have the same errors.
    return best_order(oven, numbers)[:1]


def are_compatible(oven, numbers):
    """Answer 1 if two products can be baked at one temperature, otherwise 0."""
    i = numbers[0]
    j = numbers[1]
    if not has_product(oven, i) or not has_product(oven, j):
        return [MISSING]
    return [1 if have_a_shared_temperature(oven.products[i], oven.products[j]) else 0]


def fill_batch(oven, numbers):
    """Answer how many tins a batch holds that is filled first, then its number of tins of each product."""
    temperature = numbers[0]
    if not is_temperature(temperature):
        return [OUT_OF_RANGE]
    tins = filled_batch(oven.products, all_tins(oven.products), oven.capacity, temperature)
    return [sum(tins)] + tins


def min_batches_if_tins(oven, numbers):
    """Answer the number of planned batches there would be if a product had another number of tins."""
    i = numbers[0]
    tins = numbers[1]
    if not has_product(oven, i):
        return [MISSING]
    if not is_number_of_tins(tins):
        return [OUT_OF_RANGE]
    return [len(planned_batches(with_tins(oven.products, i, tins), oven.capacity))]


def min_batches_if_capacity(oven, numbers):
    """Answer the number of planned batches there would be at another capacity."""
    capacity = numbers[0]
    if not is_capacity(capacity):
        return [OUT_OF_RANGE]
    return [len(planned_batches(oven.products, capacity))]


def check_batches(oven, numbers):
    """Answer 1 if the batches that are handed in are a solution, otherwise 0; then how many they are."""
    # The first number tells how many follow, which the list's own length tells as well.
    listed = numbers[1:]
    if not is_list_of_batches(listed, oven.products):
        return [OUT_OF_RANGE]
    batches = batches_in(listed, oven.products)
    return [1 if is_solution(batches, oven.products, oven.capacity) else 0, len(batches)]


def describe(oven, numbers):
    """Answer the capacity, the number of products, then the range and the tins of each."""
    described = [oven.capacity, len(oven.products)]
    for product in oven.products:
        described.extend([product.min_temperature, product.max_temperature, product.tins])
    return described


OPERATIONS = {
    1: add_product,
    2: set_tins,
    3: set_temperatures,
    4: remove_product,
    5: set_capacity,
    6: min_batches,
    7: batch,
    8: temperatures,
    9: best_order,
    10: min_change,
    11: are_compatible,
    12: fill_batch,
    13: min_batches_if_tins,
    14: min_batches_if_capacity,
    15: check_batches,
    16: describe,
}


def operate(oven, number, numbers):
    """Carry out the operation of a call's number on an instance; answer what it answers."""
    operation = OPERATIONS[number]
    return operation(oven, numbers)
