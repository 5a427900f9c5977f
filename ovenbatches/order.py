"""In which order batches are baked, told by their temperatures alone."""


def total_change(start, degrees):
    """By how much the temperature changes in all, from a starting temperature through these in their order."""
    change = 0
    before = start
    for temperature in degrees:
        change = change + abs(temperature - before)
        before = temperature
    return change


def order_of_least_change(start, degrees):
    """These temperatures in their best order from a starting temperature.

    Only two orders are looked at: each order has to reach the lowest and the highest temperature, so that none
    changes less than the one that goes to the nearer of them first and then straight to the other.
    """
    ascending = sorted(degrees)
    descending = sorted(degrees, reverse=True)
    if total_change(start, descending) < total_change(start, ascending):
        return descending
    return ascending
