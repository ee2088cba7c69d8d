"""A table's rows: where they stand, what stays while it's held, and how it's tidied."""

import random
import unittest

from heldtables.rows import Table, bucket_number, fitter_number


def table_with(keys, in_order=False):
    table = Table(1, in_order, 0, 0)
    for key in keys:
        table.put_in(key, key)
    return table


def keys_in(table):
    """The keys of each bucket, those taken out that stay among them."""
    return [[row.key for row in bucket] for bucket in table.buckets]


def keys_there(table):
    return [row.key for row in table.rows_there()]


def take_out(table, key):
    table.take_out(table.row_there(key))


class BucketNumberTest(unittest.TestCase):
    def test_by_the_power_of_two_that_is_n_at_most(self):
        self.assertEqual([bucket_number(key, 2) for key in range(6)], [0, 1, 0, 1, 0, 1])
        self.assertEqual([bucket_number(key, 3) for key in range(8)], [0, 1, 2, 1, 0, 1, 2, 1])
        self.assertEqual([bucket_number(key, 4) for key in range(8)], [0, 1, 2, 3, 0, 1, 2, 3])
        self.assertEqual([bucket_number(key, 5) for key in range(9)], [0, 1, 2, 3, 4, 1, 2, 3, 0])
        self.assertEqual([bucket_number(key, 7) for key in range(9)], [0, 1, 2, 3, 4, 5, 6, 3, 0])
        self.assertEqual([bucket_number(key, 8) for key in (7, 8, 15, 999)], [7, 0, 7, 7])

    def test_one_bucket_takes_every_key(self):
        self.assertEqual([bucket_number(key, 1) for key in (0, 1, 2, 999, 4294967295)], [0, 0, 0, 0, 0])


class FitterNumberTest(unittest.TestCase):
    def test_it_grows_above_twice_as_many_rows(self):
        self.assertEqual(fitter_number(4, 2), 2)
        self.assertEqual(fitter_number(5, 2), 3)
        self.assertEqual(fitter_number(6, 3), 3)
        self.assertEqual(fitter_number(100, 3), 4)

    def test_it_shrinks_below_half_as_many_rows(self):
        self.assertEqual(fitter_number(2, 4), 4)
        self.assertEqual(fitter_number(1, 4), 3)
        self.assertEqual(fitter_number(3, 5), 5)
        self.assertEqual(fitter_number(2, 5), 4)
        self.assertEqual(fitter_number(1, 3), 2)

    def test_two_buckets_are_the_fewest(self):
        self.assertEqual(fitter_number(0, 3), 2)
        self.assertEqual(fitter_number(0, 2), 2)


class PlacesTest(unittest.TestCase):
    def test_a_new_table(self):
        self.assertEqual(keys_in(table_with([])), [[], []])
        self.assertEqual(keys_in(table_with([], True)), [[]])

    def test_a_new_key_is_last_and_a_known_one_keeps_its_place(self):
        table = table_with([4, 1, 0])
        self.assertEqual(keys_in(table), [[4, 0], [1]])
        table.put_in(4, 44)
        self.assertEqual(keys_in(table), [[4, 0], [1]])
        self.assertEqual(table.row_there(4).value, 44)

    def test_a_key_taken_out_and_put_in_again_is_last(self):
        table = table_with([4, 1, 0])
        take_out(table, 4)
        table.put_in(4, 4)
        self.assertEqual(keys_in(table), [[0, 4], [1]])

    def test_in_order_rows_stand_by_key(self):
        table = table_with([500, 3, 999, 0, 4, 700, 2], True)
        self.assertEqual(keys_in(table), [[0, 2, 3, 4, 500, 700, 999]])
        take_out(table, 3)
        self.assertEqual(keys_in(table), [[0, 2, 4, 500, 700, 999]])


class GrowAndShrinkTest(unittest.TestCase):
    def test_one_bucket_more_at_a_time(self):
        table = table_with([0, 1, 2, 3])
        self.assertEqual(keys_in(table), [[0, 2], [1, 3]])
        table.put_in(4, 4)
        self.assertEqual(keys_in(table), [[0, 4], [1, 3], [2]])
        table.put_in(5, 5)
        self.assertEqual(keys_in(table), [[0, 4], [1, 3, 5], [2]])
        table.put_in(6, 6)
        self.assertEqual(keys_in(table), [[0, 4], [1, 5], [2, 6], [3]])

    def test_rows_are_dealt_bucket_by_bucket_not_as_they_came(self):
        table = table_with([4, 0, 12, 8, 1, 2, 3, 5, 6])
        self.assertEqual(keys_in(table), [[0, 8], [1, 5], [2, 6], [3], [4, 12]])
        for key in (8, 12, 1, 2, 3, 5):
            take_out(table, key)
        self.assertEqual(keys_in(table), [[0], [], [6], [], [4]])
        take_out(table, 6)
        self.assertEqual(keys_in(table), [[0, 4], [], [], []])

    def test_it_shrinks_to_two_and_no_further(self):
        table = table_with(range(7))
        for key in range(5):
            take_out(table, key)
        self.assertEqual(keys_in(table), [[], [5], [6], []])
        take_out(table, 6)
        self.assertEqual(keys_in(table), [[], [5]])
        take_out(table, 5)
        self.assertEqual(keys_in(table), [[], []])

    def test_every_tidied_table_fits(self):
        chance = random.Random(1)
        table = table_with([])
        for step in range(3000):
            key = chance.randrange(90 if step % 600 < 400 else 15)
            if chance.random() < 0.5 and table.row_there(key) is not None:
                take_out(table, key)
            else:
                table.put_in(key, step)
            size = len(table.buckets)
            rows = len(table.rows_there())
            self.assertEqual(fitter_number(rows, size), size)
            for number, bucket in enumerate(table.buckets):
                self.assertEqual([bucket_number(row.key, size) for row in bucket], [number] * len(bucket))


class HeldTest(unittest.TestCase):
    def test_held_nothing_moves(self):
        table = table_with([0, 1, 2, 3])
        table.hold(1)
        for key in range(4, 9):
            table.put_in(key, key)
        self.assertEqual(keys_in(table), [[0, 2, 4, 6, 8], [1, 3, 5, 7]])

    def test_held_what_is_taken_out_keeps_its_place(self):
        for in_order, places in ((False, [[0, 2, 4], [1]]), (True, [[0, 1, 2, 4]])):
            table = table_with([0, 2, 1, 4], in_order)
            table.hold(1)
            take_out(table, 2)
            self.assertEqual(keys_in(table), places)
            self.assertEqual(keys_there(table), [0, 4, 1] if not in_order else [0, 1, 4])
            self.assertIsNone(table.row_there(2))
            self.assertEqual(table.row_placed(2).key, 2)
            table.put_in(2, 22)
            self.assertEqual(keys_in(table), places)
            self.assertEqual(table.row_there(2).value, 22)

    def test_let_go_it_is_tidied_step_by_step(self):
        table = table_with([4, 0, 12, 8, 1, 2, 3, 5, 6])
        table.hold(1)
        table.hold(1)
        for key in (8, 12, 1, 2, 3, 5, 6):
            take_out(table, key)
        self.assertEqual(keys_in(table), [[0, 8], [1, 5], [2, 6], [3], [4, 12]])
        table.end_holder(1)
        self.assertEqual(keys_in(table), [[0, 4], [], [], []])

    def test_it_grows_by_all_the_steps_between(self):
        table = table_with([])
        table.hold(1)
        for key in (6, 2, 3, 1, 0, 5, 4):
            table.put_in(key, key)
        self.assertEqual(keys_in(table), [[6, 2, 0, 4], [3, 1, 5]])
        table.end_holder(1)
        self.assertEqual(keys_in(table), [[0, 4], [1, 5], [6, 2], [3]])

    def test_another_still_holds_it(self):
        table = table_with([0, 2, 1, 4])
        table.hold(1)
        table.hold(2)
        take_out(table, 2)
        table.end_holder(1)
        table.end_holder(3)
        self.assertEqual(keys_in(table), [[0, 2, 4], [1]])
        table.end_holder(2)
        self.assertEqual(keys_in(table), [[0, 4], [1]])


if __name__ == "__main__":
    unittest.main()
