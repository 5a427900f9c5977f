"""Whether there is an instance, and which one: -11, create, and what create replaces or keeps."""

import unittest

from tests.calls import (
    GREATEST, LEAST, NO_INSTANCE, OUT_OF_RANGE, add_product, are_compatible, batch, best_order, check_batches, create,
    describe, fill_batch, holds, last, making, min_batches, min_batches_if_capacity, min_batches_if_tins, min_change,
    remove_product, run, set_capacity, set_temperatures, set_tins, state_behind, temperatures)

# Each call but create, also with parameters that would be refused if there were an instance.
OTHERS = [
    add_product(180, 200, 5), add_product(-1, 401, 10),
    set_tins(0, 1), set_tins(-1, -1),
    set_temperatures(0, 1, 2), set_temperatures(6, 2, 1),
    remove_product(0), remove_product(-1),
    set_capacity(6), set_capacity(0),
    min_batches(), batch(0), batch(-1), temperatures(),
    best_order(200), best_order(-1), best_order(401),
    min_change(200), min_change(-1), min_change(401),
    are_compatible(0, 0), are_compatible(-1, 6),
    fill_batch(200), fill_batch(-1), fill_batch(401),
    min_batches_if_tins(0, 1), min_batches_if_tins(-1, 10),
    min_batches_if_capacity(6), min_batches_if_capacity(0),
    check_batches([]), check_batches([200, 5]), check_batches([-1]), check_batches([0] * 69 + [LEAST]),
    describe()]

REFUSED = [LEAST, -1, 0, 21, 22, GREATEST]


class NoInstance(unittest.TestCase):
    def test_each_call_before_any_create(self):
        for call in OTHERS:
            with self.subTest(call=call):
                self.assertEqual(run(call), [NO_INSTANCE])
        self.assertEqual(run(*OTHERS), [NO_INSTANCE] * len(OTHERS))
        self.assertEqual({call[0] for call in OTHERS}, set(range(1, 17)))

    def test_the_calls_behind_a_list_are_read_at_the_right_places(self):
        for listed in ([], [0], [0, 6], [0, 6, 6], [200, -5], [-1], [15, 1, 0], [LEAST] * 70, [0, 6] * 35):
            with self.subTest(listed=listed):
                self.assertEqual(run(check_batches(listed), describe()), [NO_INSTANCE] * 2)
                calls = [check_batches(listed), check_batches(listed), create(5), add_product(1, 2, 3), describe()]
                self.assertEqual(run(*calls), [NO_INSTANCE, NO_INSTANCE, [0], [0], [5, 1, 1, 2, 3]])
                calls = [create(0), check_batches(listed), create(5), describe()]
                self.assertEqual(run(*calls), [OUT_OF_RANGE, NO_INSTANCE, [0], [5, 0]])

    def test_each_call_behind_a_refused_create(self):
        for capacity in REFUSED:
            for call in OTHERS:
                with self.subTest(capacity=capacity, call=call):
                    self.assertEqual(run(create(capacity), call), [OUT_OF_RANGE, NO_INSTANCE])

    def test_nothing_of_the_refused_calls_stays(self):
        for others in (OTHERS[:20], OTHERS[20:]):
            self.assertEqual(holds(*others, create(3)), (3, []))
            self.assertEqual(holds(create(0), *others, create(3)), (3, []))


class Create(unittest.TestCase):
    def test_both_ends_of_the_range_and_one_beyond(self):
        for capacity in (1, 2, 6, 19, 20):
            with self.subTest(capacity=capacity):
                self.assertEqual(run(create(capacity)), [[0]])
                self.assertEqual(holds(create(capacity)), (capacity, []))
        for capacity in REFUSED:
            with self.subTest(capacity=capacity):
                self.assertEqual(run(create(capacity)), [OUT_OF_RANGE])

    def test_a_refused_one_keeps_the_instance_and_its_products(self):
        calls = making(6, [(180, 200, 5), (190, 230, 4)])
        for capacity in REFUSED:
            with self.subTest(capacity=capacity):
                self.assertEqual(last(*calls, create(capacity)), OUT_OF_RANGE)
                self.assertEqual(holds(*calls, create(capacity)), (6, [(180, 200, 5), (190, 230, 4)]))
                self.assertEqual(state_behind(*calls, create(capacity)), state_behind(*calls))

    def test_one_that_succeeds_replaces_the_instance(self):
        calls = making(6, [(180, 200, 5), (190, 230, 4)])
        self.assertEqual(last(*calls, create(7)), [0])
        self.assertEqual(holds(*calls, create(7)), (7, []))
        self.assertEqual(last(*calls, create(7), min_batches()), [0])
        self.assertEqual(last(*calls, create(7), add_product(1, 2, 3)), [0])

    def test_one_that_succeeds_makes_room_for_6_products_again(self):
        six = making(6, [(i, i + 1, i) for i in range(6)])
        self.assertEqual(run(*six, *six), [[0], [0], [1], [2], [3], [4], [5]] * 2)

    def test_the_new_capacity_counts(self):
        calls = making(9, [(1, 2, 3)]) + making(2, [(4, 5, 6)])
        self.assertEqual(last(*calls, temperatures()), [3, 5, 5, 5])


if __name__ == "__main__":
    unittest.main()
