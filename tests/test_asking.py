"""which, table and order: what is told of a table, and their refusals in promises 1 to 3."""

import unittest

from tests.helper import LineTest


class WhichTest(LineTest):
    def in_each_sort(self, text):
        for sort in (0, 1):
            self.line(f"start -> 1\nstart -> 2\nnew 1 {sort} 0 0 -> 1\n" + text)

    def test_no_rows(self):
        self.in_each_sort("""
            which 1 1 0 1000000 -> 0
            which 1 1 0 4294967295 -> 0
            which 1 1 0 0 -> 0
        """)

    def test_least_below_at_and_above_most(self):
        self.in_each_sort("""
            put 1 1 5 50 -> 0
            put 1 1 6 60 -> 0
            put 1 1 7 70 -> 0
            which 1 1 50 70 -> 3 5 50 6 60 7 70
            which 1 1 51 70 -> 2 6 60 7 70
            which 1 1 50 69 -> 2 5 50 6 60
            which 1 1 51 69 -> 1 6 60
            which 1 1 60 60 -> 1 6 60
            which 1 1 61 61 -> 0
            which 1 1 61 60 -> 0
            which 1 1 70 50 -> 0
            which 1 1 71 1000000 -> 0
            which 1 1 0 49 -> 0
            which 1 1 0 50 -> 1 5 50
            which 1 1 70 4294967295 -> 1 7 70
            which 1 1 4294967295 4294967295 -> 0
            which 1 1 4294967295 0 -> 0
            which 1 1 0 4294967295 -> 3 5 50 6 60 7 70
        """)

    def test_the_values_ends(self):
        self.in_each_sort("""
            put 1 1 0 1000000 -> 0
            put 1 1 999 0 -> 0
            which 1 1 0 0 -> 1 999 0
            which 1 1 1000000 1000000 -> 1 0 1000000
            which 1 1 1 999999 -> 0
            which 1 1 0 1000000 -> 2 0 1000000 999 0
            which 1 1 1000001 4294967295 -> 0
        """)

    def test_by_key_where_the_walk_goes_otherwise(self):
        self.line("""
            start -> 1
            new 1 0 0 0 -> 1
            put 1 1 9 1 -> 0
            put 1 1 8 2 -> 0
            put 1 1 3 1 -> 0
            put 1 1 2 1 -> 0
            put 1 1 1 3 -> 0
            put 1 1 0 1 -> 0
            order 1 -> 6 8 0 9 3 1 2
            which 1 1 1 1 -> 4 0 1 2 1 3 1 9 1
            which 1 1 0 9 -> 6 0 1 1 3 2 1 3 1 8 2 9 1
            which 1 1 2 3 -> 2 1 3 8 2
        """)

    def test_the_values_as_they_were_put_in_last(self):
        self.in_each_sort("""
            put 1 1 5 50 -> 0
            put 1 1 6 60 -> 0
            put 1 1 5 61 -> 1
            only 1 1 6 90 -> 0
            bump 1 1 6 5 -> 65
            which 1 1 60 70 -> 2 5 61 6 65
            which 1 1 50 60 -> 0
            out 1 1 5 -> 1
            which 1 1 60 70 -> 1 6 65
        """)

    def test_what_was_taken_out_of_a_held_table_is_not_there(self):
        self.in_each_sort("""
            put 1 1 5 50 -> 0
            put 1 1 6 60 -> 0
            hold 1 1 -> 1
            out 1 1 5 -> 1
            which 1 1 0 99 -> 1 6 60
            put 1 1 5 51 -> 0
            which 1 1 0 99 -> 2 5 51 6 60
        """)

    def test_who_may(self):
        for access, answer in ((0, "-4"), (1, "1 5 50"), (2, "1 5 50")):
            self.line(f"""
                start -> 1
                start -> 2
                new 1 0 {access} 2 -> 1
                put 1 1 5 50 -> 0
                which 2 1 0 99 -> {answer}
                which 1 1 0 99 -> 1 5 50
            """)

    def test_of_several_refusals_the_one_told_first(self):
        self.line("""
            which 1 1 0 9 -> -1
            start -> 1
            start -> 2
            start -> 3
            ends 3 -> 0
            new 1 1 0 0 -> 1
            which 0 1 0 9 -> -1
            which 3 1 0 9 -> -1
            which 3 2 9 0 -> -1
            which 4294967295 4294967295 4294967295 4294967295 -> -1
            which 2 2 0 9 -> -3
            which 2 0 0 9 -> -3
            which 1 4294967295 0 9 -> -3
            which 2 1 0 9 -> -4
            which 2 1 9 0 -> -4
            which 1 1 9 0 -> 0
            drop 1 1 -> 0
            which 1 1 0 9 -> -3
        """)


class TableTest(LineTest):
    def test_as_it_was_made(self):
        self.line("""
            start -> 1
            start -> 2
            new 1 0 0 0 -> 1
            new 2 1 0 0 -> 2
            new 1 0 1 2 -> 3
            new 2 1 2 1 -> 4
            table 1 -> 0 1 0 0 0 2 0
            table 2 -> 1 2 0 0 0 1 0
            table 3 -> 0 1 2 1 0 2 0
            table 4 -> 1 2 1 2 0 1 0
        """)

    def test_no_such_table(self):
        self.line("""
            table 0 -> -3
            table 1 -> -3
            table 4294967295 -> -3
            order 0 -> -3
            order 1 -> -3
            order 4294967295 -> -3
            start -> 1
            new 1 0 0 0 -> 1
            table 0 -> -3
            table 2 -> -3
            order 2 -> -3
            drop 1 1 -> 0
            table 1 -> -3
            order 1 -> -3
            new 1 0 0 0 -> 2
            table 1 -> -3
            table 2 -> 0 1 0 0 0 2 0
            ends 1 -> 0
            table 2 -> -3
            order 2 -> -3
        """)

    def test_rows_and_buckets_as_rows_come_and_go(self):
        self.line("""
            start -> 1
            new 1 0 0 0 -> 1
            put 1 1 0 0 -> 0
            put 1 1 1 0 -> 0
            put 1 1 2 0 -> 0
            only 1 1 3 0 -> 1
            table 1 -> 0 1 0 0 4 2 0
            order 1 -> 4 0 2 1 3
            only 1 1 4 0 -> 1
            table 1 -> 0 1 0 0 5 3 0
            order 1 -> 5 0 4 1 3 2
            put 1 1 4 9 -> 1
            put 1 1 5 0 -> 0
            table 1 -> 0 1 0 0 6 3 0
            order 1 -> 6 0 4 1 3 5 2
            put 1 1 6 0 -> 0
            table 1 -> 0 1 0 0 7 4 0
            order 1 -> 7 0 4 1 5 2 6 3
            out 1 1 0 -> 1
            out 1 1 1 -> 1
            out 1 1 2 -> 1
            out 1 1 3 -> 1
            out 1 1 4 -> 1
            out 1 1 4 -> 0
            table 1 -> 0 1 0 0 2 4 0
            order 1 -> 2 5 6
            out 1 1 6 -> 1
            table 1 -> 0 1 0 0 1 2 0
            order 1 -> 1 5
            out 1 1 5 -> 1
            table 1 -> 0 1 0 0 0 2 0
            order 1 -> 0
        """)

    def test_a_table_in_order_is_one_bucket(self):
        self.line("\n".join(["start -> 1", "new 1 1 0 0 -> 1"]
            + [f"put 1 1 {key} 0 -> 0" for key in range(20, 0, -1)]
            + ["table 1 -> 1 1 0 0 20 1 0", "order 1 -> 20 " + " ".join(str(key) for key in range(1, 21))]
            + [f"out 1 1 {key} -> 1" for key in range(2, 20)]
            + ["table 1 -> 1 1 0 0 2 1 0", "order 1 -> 2 1 20"]))

    def test_owner_and_heir(self):
        self.line("""
            start -> 1
            start -> 2
            start -> 3
            new 1 0 0 2 -> 1
            new 1 1 1 2 -> 2
            new 1 0 0 0 -> 3
            give 1 1 3 -> 0
            table 1 -> 0 3 2 0 0 2 0
            give 3 1 3 -> 0
            table 1 -> 0 3 2 0 0 2 0
            give 3 1 2 -> 0
            table 1 -> 0 2 0 0 0 2 0
            ends 1 -> 2
            table 2 -> 1 2 0 1 0 1 0
            table 3 -> -3
            new 3 0 0 2 -> 4
            ends 2 -> 1
            table 1 -> -3
            table 4 -> 0 3 2 0 0 2 0     # an heir that doesn't live any more is still told
        """)

    def test_how_many_times_it_is_held(self):
        self.line("""
            start -> 1
            start -> 2
            new 1 0 1 0 -> 1
            new 1 1 1 0 -> 2
            hold 1 1 -> 1
            table 1 -> 0 1 0 1 0 2 1
            table 2 -> 1 1 0 1 0 1 0
            hold 2 1 -> 2
            hold 2 1 -> 3
            table 1 -> 0 1 0 1 0 2 3
            hold 2 2 -> 1
            table 2 -> 1 1 0 1 0 1 1
            letgo 1 1 -> 2
            table 1 -> 0 1 0 1 0 2 2
            ends 2 -> 2
            table 1 -> 0 1 0 1 0 2 0
            table 2 -> 1 1 0 1 0 1 0
        """)

    def test_anybody_may_ask_whatever_the_access(self):
        self.line("""
            start -> 1
            start -> 2
            new 1 0 0 2 -> 1
            put 1 1 5 50 -> 0
            ends 1 -> 1
            table 1 -> 0 2 0 0 1 2 0
            order 1 -> 1 5
        """)

    def test_asking_changes_nothing(self):
        self.line("""
            start -> 1
            new 1 0 0 0 -> 1
            put 1 1 4 4 -> 0
            put 1 1 2 2 -> 0
            hold 1 1 -> 1
            out 1 1 4 -> 1
            table 1 -> 0 1 0 0 1 2 1
            table 1 -> 0 1 0 0 1 2 1
            order 1 -> 1 2
            which 1 1 0 9 -> 1 2 2
            next 1 1 4 -> 1 2
            first 1 1 -> 1 2
            get 1 1 4 -> 0
            put 1 1 4 5 -> 0
            order 1 -> 2 4 2
        """)


if __name__ == "__main__":
    unittest.main()
