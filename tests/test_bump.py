"""bump: a value made greater, and its refusals in promises 1 to 3."""

import unittest

from tests.helper import LineTest


class BumpTest(LineTest):
    def in_each_sort(self, text):
        for sort in (0, 1):
            self.line(f"start -> 1\nstart -> 2\nnew 1 {sort} 1 0 -> 1\n" + text)

    def test_the_value_is_that_much_more(self):
        self.in_each_sort("""
            put 1 1 5 50 -> 0
            put 1 1 7 70 -> 0
            bump 1 1 5 3 -> 53
            get 1 1 5 -> 1 53
            bump 1 1 5 0 -> 53
            bump 1 1 5 47 -> 100
            get 1 1 5 -> 1 100
            get 1 1 7 -> 1 70
            put 1 1 5 1 -> 1
            bump 1 1 5 1 -> 2
            which 1 1 0 1000000 -> 2 5 2 7 70
        """)

    def test_over_the_greatest_value_it_begins_at_zero(self):
        self.in_each_sort("""
            put 1 1 5 999999 -> 0
            bump 1 1 5 1 -> 1000000
            bump 1 1 5 1 -> 0
            bump 1 1 5 1000000 -> 1000000
            bump 1 1 5 1000000 -> 999999
            bump 1 1 5 1000000 -> 999998
            bump 1 1 5 3 -> 0
            get 1 1 5 -> 1 0
        """)

    def test_a_key_that_is_not_there(self):
        for sort, buckets in ((0, 2), (1, 1)):
            self.line(f"""
                start -> 1
                new 1 {sort} 0 0 -> 1
                bump 1 1 5 3 -> -5
                put 1 1 0 1 -> 0
                put 1 1 999 1 -> 0
                put 1 1 5 50 -> 0
                out 1 1 5 -> 1
                bump 1 1 5 3 -> -5
                bump 1 1 1000 3 -> -5
                bump 1 1 4294967295 3 -> -5
                bump 1 1 999 3 -> 4
                bump 1 1 0 3 -> 4
                get 1 1 5 -> 0
                table 1 -> {sort} 1 0 0 2 {buckets} 0
            """)

    def test_how_much_more_at_most(self):
        self.in_each_sort("""
            put 1 1 5 50 -> 0
            bump 1 1 5 1000001 -> -2
            bump 1 1 5 4294967295 -> -2
            get 1 1 5 -> 1 50
            bump 1 1 5 1000000 -> 49
        """)

    def test_it_is_not_there_before_too_much(self):
        self.in_each_sort("""
            put 1 1 5 50 -> 0
            bump 1 1 6 1000001 -> -5
            bump 1 1 1000 4294967295 -> -5
            bump 1 1 5 1000001 -> -2
        """)

    def test_the_row_keeps_its_place(self):
        self.line("""
            start -> 1
            new 1 0 0 0 -> 1
            put 1 1 4 4 -> 0
            put 1 1 2 2 -> 0
            put 1 1 0 0 -> 0
            bump 1 1 4 6 -> 10
            order 1 -> 3 4 2 0
            hold 1 1 -> 1
            bump 1 1 2 6 -> 8
            order 1 -> 3 4 2 0
            letgo 1 1 -> 0
            order 1 -> 3 4 2 0
        """)

    def test_in_a_held_table_what_was_taken_out_is_not_there(self):
        self.in_each_sort("""
            put 1 1 5 50 -> 0
            hold 2 1 -> 1
            bump 1 1 5 1 -> 51
            out 1 1 5 -> 1
            bump 1 1 5 1 -> -5
            bump 1 1 5 1000001 -> -5
            put 1 1 5 9 -> 0
            bump 1 1 5 1 -> 10
            letgo 2 1 -> 0
            get 1 1 5 -> 1 10
        """)

    def test_who_may(self):
        for access, answer, value in ((0, -4, 50), (1, -4, 50), (2, 51, 51)):
            self.line(f"""
                start -> 1
                start -> 2
                new 1 0 {access} 2 -> 1
                put 1 1 5 50 -> 0
                bump 2 1 5 1 -> {answer}
                get 1 1 5 -> 1 {value}
                bump 1 1 5 0 -> {value}
            """)

    def test_of_several_refusals_the_one_told_first(self):
        self.line("""
            bump 1 1 5 1000001 -> -1
            start -> 1
            start -> 2
            start -> 3
            ends 3 -> 0
            new 1 0 1 0 -> 1
            put 1 1 5 50 -> 0
            bump 0 1 5 1 -> -1
            bump 3 1 5 1 -> -1
            bump 3 2 6 1000001 -> -1
            bump 4294967295 4294967295 4294967295 4294967295 -> -1
            bump 2 2 6 1000001 -> -3
            bump 2 0 5 1 -> -3
            bump 1 4294967295 5 1 -> -3
            bump 2 1 5 1 -> -4
            bump 2 1 6 1 -> -4
            bump 2 1 5 1000001 -> -4
            bump 2 1 6 1000001 -> -4
            bump 1 1 6 1000001 -> -5
            bump 1 1 5 1000001 -> -2
            get 1 1 5 -> 1 50
            order 1 -> 1 5
            table 1 -> 0 1 0 1 1 2 0
        """)


if __name__ == "__main__":
    unittest.main()
