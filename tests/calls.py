"""How the tests write calls and read their answers, and instances to go through."""

import itertools
import unittest

from ovenbatches.tins import answers

LEAST = -2147483648
GREATEST = 2147483647

BAD_TINS = [-1, 10, LEAST, GREATEST]
BAD_CAPACITIES = [-1, 0, 21, LEAST, GREATEST]
BAD_TEMPERATURES = [-1, 401, LEAST, GREATEST]

NO_INSTANCE = [-11]
MISSING = [-2]
OUT_OF_RANGE = [-22]
TOO_MANY_PRODUCTS = [-28]


def create(capacity):
    return [0, capacity]


def add_product(min_temperature, max_temperature, tins):
    return [1, min_temperature, max_temperature, tins]


def set_tins(i, tins):
    return [2, i, tins]


def set_temperatures(i, min_temperature, max_temperature):
    return [3, i, min_temperature, max_temperature]


def remove_product(i):
    return [4, i]


def set_capacity(capacity):
    return [5, capacity]


def min_batches():
    return [6]


def batch(k):
    return [7, k]


def temperatures():
    return [8]


def best_order(start):
    return [9, start]


def min_change(start):
    return [10, start]


def are_compatible(i, j):
    return [11, i, j]


def fill_batch(temperature):
    return [12, temperature]


def min_batches_if_tins(i, tins):
    return [13, i, tins]


def min_batches_if_capacity(capacity):
    return [14, capacity]


def check_batches(batches):
    return [15, len(batches)] + batches


def describe():
    return [16]


def flat(calls):
    """The list that is handed in for these calls."""
    return [number for call in calls for number in call]


def split(answered, count):
    """The answers of `count` calls, each a list, out of the list that is given back."""
    answers_of_calls = []
    at = 0
    while at < len(answered):
        end = at + 1 + answered[at]
        if answered[at] < 1 or end > len(answered):
            raise AssertionError(f"no such answer at {at} of {answered}")
        answers_of_calls.append(answered[at + 1:end])
        at = end
    if len(answers_of_calls) != count:
        raise AssertionError(f"{len(answers_of_calls)} answers instead of {count}: {answered}")
    return answers_of_calls


def run(*calls):
    """The answers of these calls in one request, each a list."""
    if not 1 <= len(calls) <= 60:
        raise AssertionError(f"{len(calls)} calls in one request")
    return split(answers(flat(calls)), len(calls))


def last(*calls):
    """The answer of the last one of these calls in one request."""
    return run(*calls)[-1]


def making(capacity, products):
    """The calls that make an instance of a capacity and of products, each (min, max, tins)."""
    return [create(capacity)] + [add_product(*product) for product in products]


PRODUCTS = [(180, 200, 5), (190, 230, 4), (220, 250, 3)]
THREE = making(6, PRODUCTS)
SIX_PRODUCTS = [(10 * i, 10 * i + 15, i + 1) for i in range(6)]
SIX = making(4, SIX_PRODUCTS)


def batches_of(*calls):
    """The planned batches behind these calls, as batch(k) tells them."""
    count = last(*calls, min_batches())[0]
    batches = []
    # A request has at most 60 calls, and an instance up to 54 planned batches.
    for first in range(0, count, 40):
        asked = [batch(k) for k in range(first, min(first + 40, count))]
        batches += run(*calls, *asked)[len(calls):]
    return batches


def state_behind(*calls):
    """All that can be asked about an instance behind these calls: what it plans, and then what it holds."""
    planned = [describe(), min_batches(), temperatures()] + [batch(k) for k in range(9)]
    held = [set_capacity(1)]
    for i in range(6):
        held += [set_tins(i, 0), set_temperatures(i, 0, 0)]
    return run(*calls, *planned, *held, remove_product(0))[len(calls):]


def holds(*calls):
    """The capacity and the products, each (min, max, tins), that an instance holds behind these calls.

    What the calls that change it answer tells them, so that describe is not asked here.
    """
    state = state_behind(*calls)[12:]
    products = []
    for i in range(6):
        tins, range_of_product = state[1 + 2 * i], state[2 + 2 * i]
        if tins != MISSING:
            products.append((range_of_product[1], range_of_product[2], tins[0]))
    left = state[13]
    if left != ([len(products) - 1] if products else MISSING):
        raise AssertionError(f"{left} left of {products}")
    return state[0][0], products


def bad_indices(count):
    """Numbers that no product has, where there are `count`."""
    return sorted({-1, -count, count, count + 1, LEAST, GREATEST})


def is_solution(capacity, products, batches):
    """Whether batches, each a temperature and then tins, are a solution, by the document's words."""
    for temperature, *tins in batches:
        if len(tins) != len(products) or min(tins, default=0) < 0 or sum(tins) > capacity:
            return False
        for (low, high, wanted), put in zip(products, tins):
            if put > 0 and not low <= temperature <= high:
                return False
    return all(sum(row[1 + i] for row in batches) == products[i][2] for i in range(len(products)))


class Case(unittest.TestCase):
    def assert_unchanged(self, calls, call):
        """Everything stands behind the call as it stood, and the call answers the same again."""
        with self.subTest(call=call):
            self.assertEqual(state_behind(*calls, call), state_behind(*calls))
            answered = run(*calls, call, call)[-2:]
            self.assertEqual(answered, [last(*calls, call)] * 2)

    def assert_refused(self, calls, call, code):
        """The call answers this code alone, and everything stands behind it as it stood."""
        with self.subTest(call=call):
            self.assertEqual(last(*calls, call), code)
            self.assert_unchanged(calls, call)


class Numbers:
    """A row of numbers that look picked by chance, the same for the same seed at each run."""

    def __init__(self, seed):
        self.state = seed

    def between(self, lowest, highest):
        self.state = (self.state * 6364136223846793005 + 1442695040888963407) % 2**64
        return lowest + (self.state >> 33) % (highest - lowest + 1)

    def product(self, highest_temperature, most_tins):
        ends = sorted([self.between(0, highest_temperature), self.between(0, highest_temperature)])
        return ends[0], ends[1], self.between(0, most_tins)


def instances(seed, count, highest_temperature=400, most_products=6):
    """`count` instances, each its capacity and its products; also narrow ranges, where many share a temperature."""
    numbers = Numbers(seed)
    for number in range(count):
        highest = highest_temperature if number % 2 else min(highest_temperature, 12)
        products = [numbers.product(highest, 9) for i in range(numbers.between(0, most_products))]
        yield numbers.between(1, 20 if number % 3 else 6), products


def small_instances():
    """Small instances, a sample that is spread over all with up to 3 products, 0 to 4 degrees and 0 to 3 tins."""
    ranges = [(low, high) for low in range(5) for high in range(low, 5)]
    kinds = [(low, high, tins) for low, high in ranges for tins in range(4)]
    for capacity in (1, 2, 3, 4):
        for count, step in ((0, 1), (1, 1), (2, 23), (3, 997)):
            for products in itertools.islice(itertools.product(kinds, repeat=count), 0, None, step):
                yield capacity, list(products)
