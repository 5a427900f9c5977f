"""The error codes, and the ranges that parameters must lie in."""

NO_INSTANCE = -11
MISSING = -2
OUT_OF_RANGE = -22
TOO_MANY_PRODUCTS = -28

LOWEST_CAPACITY = 1
HIGHEST_CAPACITY = 20
LOWEST_TEMPERATURE = 0
HIGHEST_TEMPERATURE = 400
FEWEST_TINS = 0
MOST_TINS = 9
MOST_PRODUCTS = 6


def is_capacity(capacity):
    """Tell whether an oven may have this capacity."""
    return LOWEST_CAPACITY <= capacity <= HIGHEST_CAPACITY


def is_temperature(temperature):
    """Tell whether an oven may have this temperature."""
    return LOWEST_TEMPERATURE <= temperature <= HIGHEST_TEMPERATURE


def is_temperature_range(min_temperature, max_temperature):
    """Tell whether a product may have these two as its lowest and its highest temperature."""
    return LOWEST_TEMPERATURE <= min_temperature <= max_temperature <= HIGHEST_TEMPERATURE


def is_number_of_tins(tins):
    """Tell whether a product may have this many tins."""
    return FEWEST_TINS <= tins <= MOST_TINS
