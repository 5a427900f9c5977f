"""Whether batches that somebody else has planned are a solution."""

from ovenbatches.plan import can_be_baked


def is_list_of_batches(numbers, products):
    """Tell whether a list can be divided into a group for each batch, with no negative number in any."""
    return len(numbers) % (1 + len(products)) == 0 and min(numbers, default=0) >= 0


def batches_in(numbers, products):
    """The batches of such a list, each as its temperature and a list of tins."""
    size = 1 + len(products)
    return [(numbers[at], numbers[at + 1:at + size]) for at in range(0, len(numbers), size)]


def can_be_baked_together(products, capacity, temperature, tins):
    """Tell whether a batch of this temperature may hold these numbers of tins."""
    if sum(tins) > capacity:
        return False
    for i in range(len(products)):
        # A product without a tin in the batch may have any range.
        if tins[i] > 0 and not can_be_baked(products[i], temperature):
            return False
    return True


def hold_all_tins(batches, products):
    """Tell whether the batches hold just the tins of each product, neither fewer nor more."""
    for i in range(len(products)):
        if sum([batch[1][i] for batch in batches]) != products[i].tins:
            return False
    return True


def is_solution(batches, products, capacity):
    """Tell whether batches, each as its temperature and a list of tins, are a solution."""
    for batch in batches:
        if not can_be_baked_together(products, capacity, batch[0], batch[1]):
            return False
    return hold_all_tins(batches, products)
