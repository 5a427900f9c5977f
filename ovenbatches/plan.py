"""Which batches the tins of an oven's products are baked in."""


def can_be_baked(product, temperature):
    """Tell whether a product can be baked at a temperature."""
    return product.min_temperature <= temperature <= product.max_temperature


def have_a_shared_temperature(product, other):
    """Tell whether there is a temperature at which both products can be baked."""
    return product.min_temperature <= other.max_temperature and other.min_temperature <= product.max_temperature


def all_tins(products):
    """The number of tins of each product."""
    return [product.tins for product in products]


def filling_order(products):
    """The numbers of the products in the order in which a batch is filled with them."""
    return sorted(range(len(products)), key=lambda i: (products[i].max_temperature, i))


def filled_batch(products, remaining, capacity, temperature):
    """The number of tins of each product in a batch that is filled at a temperature."""
    tins = [0] * len(products)
    room = capacity
    for i in filling_order(products):
        if can_be_baked(products[i], temperature):
            tins[i] = min(remaining[i], room)
            room = room - tins[i]
    return tins


def next_temperature(products, remaining):
    """The lowest max_temperature of the products with remaining tins, of which there is one at least."""
    return min([products[i].max_temperature for i in range(len(products)) if remaining[i] > 0])


def planned_batches(products, capacity):
    """The planned batches in the order of their numbers, each as its temperature and a list of tins."""
    batches = []
    remaining = all_tins(products)
    # Each batch takes a tin at least: capacity is not 0, and its temperature suits the product it is chosen by.
    while sum(remaining) > 0:
        temperature = next_temperature(products, remaining)
        tins = filled_batch(products, remaining, capacity, temperature)
        remaining = [remaining[i] - tins[i] for i in range(len(products))]
        batches.append((temperature, tins))
    return batches
