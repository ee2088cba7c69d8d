"""put, only, out and get: what a table has, and the refusals of promise 3."""

import unittest

from tests.helper import LineTest


def rows_put(how_many):
    """Rows that put the keys 0, 1, ... into process 1's table 1."""
    return [f"put 1 1 {key} {key * 10} -> 0" for key in range(how_many)]


class RowsTest(LineTest):
    def in_each_sort(self, text):
        for sort in (0, 1):
            self.line(f"start -> 1\nnew 1 {sort} 0 0 -> 1\n" + text)

    def test_put_says_whether_the_key_was_there(self):
        self.in_each_sort("""
            get 1 1 5 -> 0
            put 1 1 5 50 -> 0
            get 1 1 5 -> 1 50
            put 1 1 5 51 -> 1
            get 1 1 5 -> 1 51
            get 1 1 7 -> 0
            put 1 1 7 0 -> 0
            get 1 1 7 -> 1 0
            get 1 1 5 -> 1 51
            drop 1 1 -> 2
        """)

    def test_only_puts_in_what_is_not_there(self):
        self.in_each_sort("""
            only 1 1 5 50 -> 1
            only 1 1 5 51 -> 0
            get 1 1 5 -> 1 50
            put 1 1 5 52 -> 1
            only 1 1 5 53 -> 0
            get 1 1 5 -> 1 52
            out 1 1 5 -> 1
            only 1 1 5 54 -> 1
            get 1 1 5 -> 1 54
            drop 1 1 -> 1
        """)

    def test_out_takes_out_one_key_once(self):
        self.in_each_sort("""
            out 1 1 5 -> 0
            put 1 1 5 50 -> 0
            put 1 1 7 70 -> 0
            out 1 1 6 -> 0
            out 1 1 5 -> 1
            out 1 1 5 -> 0
            get 1 1 5 -> 0
            get 1 1 7 -> 1 70
            put 1 1 5 55 -> 0
            get 1 1 5 -> 1 55
            drop 1 1 -> 2
        """)

    def test_tables_have_rows_of_their_own(self):
        self.in_each_sort("""
            new 1 0 0 0 -> 2
            put 1 1 5 50 -> 0
            put 1 2 5 90 -> 0
            out 1 1 5 -> 1
            get 1 1 5 -> 0
            get 1 2 5 -> 1 90
        """)

    def test_the_greatest_key_and_value(self):
        self.in_each_sort("""
            put 1 1 999 1000000 -> 0
            put 1 1 1000 5 -> -2
            put 1 1 5 1000001 -> -2
            put 1 1 999 1000001 -> -2
            only 1 1 1000 5 -> -2
            only 1 1 5 1000001 -> -2
            only 1 1 999 1000001 -> -2   # also where the key is there
            put 1 1 4294967295 0 -> -2
            put 1 1 0 4294967295 -> -2
            only 1 1 4294967295 0 -> -2
            only 1 1 0 4294967295 -> -2
            get 1 1 999 -> 1 1000000
            get 1 1 5 -> 0
            get 1 1 0 -> 0
            only 1 1 0 0 -> 1
            get 1 1 0 -> 1 0
            only 1 1 998 1000000 -> 1
            drop 1 1 -> 3
        """)

    def test_a_key_above_the_greatest_is_not_there(self):
        self.in_each_sort("""
            put 1 1 0 1 -> 0
            get 1 1 1000 -> 0
            out 1 1 1000 -> 0
            get 1 1 4294967295 -> 0
            out 1 1 4294967295 -> 0
            get 1 1 4294967294 -> 0
            drop 1 1 -> 1
        """)

    def test_what_one_may_not_comes_before_a_wrong_row(self):
        self.line("""
            start -> 1
            start -> 2
            new 1 0 1 0 -> 1
            put 2 1 1000 1000001 -> -4
            only 2 1 1000 1000001 -> -4
            put 1 1 1000 1000001 -> -2
            only 1 1 1000 1000001 -> -2
        """)

    def test_rows_stay_known_while_the_buckets_grow_and_shrink(self):
        keys = [37 * step % 1000 for step in range(24)]
        rows = [f"put 1 1 {key} {key + 1} -> 0" for key in keys]
        rows += [f"get 1 1 {key} -> 1 {key + 1}" for key in keys[::3]]
        rows += [f"out 1 1 {key} -> 1" for key in keys[:21]]
        rows += [f"get 1 1 {key} -> 0" for key in keys[:21:4]]
        rows += [f"get 1 1 {key} -> 1 {key + 1}" for key in keys[21:]]
        self.in_each_sort("\n".join(rows))


class FullTableTest(LineTest):
    """A hundred rows need more than 80 calls: these lists are longer than those handed in."""

    def test_a_hundred_rows_and_no_more(self):
        for sort in (0, 1):
            self.line("\n".join(["start -> 1", f"new 1 {sort} 0 0 -> 1"] + rows_put(99) + [
                "put 1 1 900 1 -> 0",
                "put 1 1 901 1 -> -6",
                "only 1 1 901 1 -> -6",
                "get 1 1 901 -> 0",
                "put 1 1 900 2 -> 1",
                "only 1 1 900 3 -> 0",
                "get 1 1 900 -> 1 2",
                "put 1 1 1000 1 -> -2",
                "only 1 1 901 1000001 -> -2",
                "put 1 1 900 1000001 -> -2",
                "put 2 1 901 1 -> -1",
                "put 1 2 901 1 -> -3",
                "out 1 1 0 -> 1",
                "only 1 1 901 1 -> 1",
                "only 1 1 0 1 -> -6",
                "get 1 1 42 -> 1 420",
                "drop 1 1 -> 100",
            ]))

    def test_a_hundred_rows_are_each_tables_own(self):
        self.line("\n".join(["start -> 1", "new 1 0 0 0 -> 1", "new 1 0 0 0 -> 2"] + rows_put(100) + [
            "put 1 1 901 1 -> -6",
            "put 1 2 901 1 -> 0",
        ]))


class HeldTableTest(LineTest):
    """What the calls do with a table that process 2 holds."""

    def in_each_sort(self, text):
        for sort in (0, 1):
            self.line(f"start -> 1\nstart -> 2\nnew 1 {sort} 1 0 -> 1\nhold 2 1 -> 1\n" + text)

    def test_what_was_taken_out_is_not_there(self):
        self.in_each_sort("""
            put 1 1 5 50 -> 0
            put 1 1 6 60 -> 0
            out 1 1 5 -> 1
            out 1 1 5 -> 0
            get 1 1 5 -> 0
            bump 1 1 5 1 -> -5
            which 1 1 0 1000000 -> 1 6 60
            put 1 1 5 51 -> 0
            get 1 1 5 -> 1 51
            put 1 1 5 52 -> 1
            out 1 1 6 -> 1
            only 1 1 6 61 -> 1
            only 1 1 6 62 -> 0
            get 1 1 6 -> 1 61
            out 1 1 6 -> 1
            drop 1 1 -> 1
        """)

    def test_keys_at_and_above_the_greatest(self):
        self.in_each_sort("""
            put 1 1 999 1 -> 0
            put 1 1 1000 1 -> -2
            only 1 1 1000 1 -> -2
            out 1 1 1000 -> 0
            out 1 1 4294967295 -> 0
            out 1 1 999 -> 1
            get 1 1 999 -> 0
            get 1 1 1000 -> 0
            get 1 1 4294967295 -> 0
            only 1 1 999 1000001 -> -2
            only 1 1 999 1000000 -> 1
            get 1 1 999 -> 1 1000000
        """)

    def test_a_hundred_rows_count_those_taken_out(self):
        self.in_each_sort("\n".join(rows_put(100) + [
            "out 1 1 7 -> 1",
            "put 1 1 500 1 -> -6",
            "only 1 1 500 1 -> -6",
            "put 1 1 7 1 -> -6",
            "only 1 1 7 1 -> -6",
            "put 1 1 8 2 -> 1",
            "only 1 1 8 3 -> 0",
            "put 1 1 1000 1 -> -2",
            "bump 1 1 8 1 -> 3",
            "letgo 2 1 -> 0",
            "put 1 1 500 1 -> 0",
            "put 1 1 7 1 -> -6",
            "drop 1 1 -> 100",
        ]))

    def test_ninety_nine_rows_with_one_taken_out_leave_room_for_one(self):
        self.in_each_sort("\n".join(rows_put(99) + [
            "out 1 1 0 -> 1",
            "put 1 1 0 1 -> 0",
            "out 1 1 0 -> 1",
            "put 1 1 500 1 -> 0",
            "put 1 1 501 1 -> -6",
            "drop 1 1 -> 99",
        ]))


if __name__ == "__main__":
    unittest.main()
