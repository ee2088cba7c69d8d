"""start, ends and new: processes, heirs, and the refusals of promise 1."""

import unittest

from tests.helper import LineTest


class StartTest(LineTest):
    def test_processes_are_numbered_as_they_start(self):
        self.line("""
            start -> 1
            start -> 2
            start -> 3
        """)

    def test_eight_processes_may_be_started(self):
        rows = [f"start -> {number}" for number in range(1, 9)]
        self.line("\n".join(rows + ["start -> -6", "start -> -6", "ends 8 -> 0"]))

    def test_those_that_ended_count_too(self):
        rows = []
        for number in range(1, 9):
            rows.append(f"start -> {number}")
            rows.append(f"ends {number} -> 0")
        self.line("\n".join(rows + ["start -> -6", "ends 9 -> -1"]))

    def test_a_new_process_has_a_number_of_its_own(self):
        self.line("""
            start -> 1
            ends 1 -> 0
            start -> 2
            ends 1 -> -1
            ends 2 -> 0
        """)


class EndsTest(LineTest):
    def test_who_does_not_live_cannot_end(self):
        self.line("""
            ends 1 -> -1
            ends 0 -> -1
            start -> 1
            ends 0 -> -1
            ends 2 -> -1
            ends 4294967295 -> -1
            ends 1 -> 0
            ends 1 -> -1
        """)

    def test_a_refused_end_leaves_all_as_it_was(self):
        self.line("""
            start -> 1
            start -> 2
            new 1 0 2 0 -> 1
            put 2 1 5 50 -> 0
            ends 2 -> 1
            ends 2 -> -1
            ends 3 -> -1
            get 1 1 5 -> 1 50
            drop 1 1 -> 1
        """)

    def test_it_answers_how_many_tables_there_are_then(self):
        self.line("""
            start -> 1
            start -> 2
            start -> 3
            new 1 0 0 0 -> 1
            new 2 1 0 0 -> 2
            new 2 0 0 3 -> 3
            new 2 0 0 1 -> 4
            drop 2 4 -> 0
            ends 2 -> 2
            ends 1 -> 1
            ends 3 -> 0
        """)

    def test_without_an_heir_the_table_is_gone(self):
        self.line("""
            start -> 1
            start -> 2
            new 1 0 2 0 -> 1
            put 2 1 5 50 -> 0
            ends 1 -> 0
            get 2 1 5 -> -3
            put 2 1 5 50 -> -3
            drop 2 1 -> -3
        """)

    def test_a_living_heir_gets_the_table_with_its_rows(self):
        self.line("""
            start -> 1
            start -> 2
            start -> 3
            new 1 0 0 2 -> 1
            put 1 1 5 50 -> 0
            get 2 1 5 -> -4
            ends 1 -> 1
            get 2 1 5 -> 1 50
            put 2 1 6 60 -> 0
            get 3 1 5 -> -4          # its access stays
            drop 2 1 -> 2
        """)

    def test_an_heir_that_has_ended_gets_nothing(self):
        self.line("""
            start -> 1
            start -> 2
            start -> 3
            new 1 1 2 2 -> 1
            put 1 1 5 50 -> 0
            ends 2 -> 1
            get 3 1 5 -> 1 50
            ends 1 -> 0
            get 3 1 5 -> -3
        """)

    def test_a_table_that_its_heir_got_has_no_heir(self):
        self.line("""
            start -> 1
            start -> 2
            start -> 3
            new 1 0 2 2 -> 1
            ends 1 -> 1
            ends 2 -> 0
            get 3 1 5 -> -3
        """)

    def test_each_table_goes_its_own_way(self):
        self.line("""
            start -> 1
            start -> 2
            start -> 3
            start -> 4
            new 1 0 0 2 -> 1
            new 1 1 0 0 -> 2
            new 1 0 0 3 -> 3
            new 1 1 0 4 -> 4
            new 2 0 0 1 -> 5
            ends 3 -> 5
            ends 1 -> 3
            put 2 1 1 10 -> 0
            put 2 2 1 10 -> -3
            put 2 3 1 10 -> -3
            put 4 4 1 10 -> 0
            put 2 4 1 10 -> -4
            put 2 5 1 10 -> 0
            ends 2 -> 1              # table 5's heir has ended
            drop 4 4 -> 1
        """)

    def test_one_who_ended_does_nothing_more(self):
        self.line("""
            start -> 1
            start -> 2
            new 2 0 2 0 -> 1
            ends 1 -> 1
            new 1 0 0 0 -> -1
            drop 1 1 -> -1
            give 1 1 2 -> -1
            put 1 1 5 50 -> -1
            only 1 1 5 50 -> -1
            out 1 1 5 -> -1
            get 1 1 5 -> -1
            drop 2 1 -> 0
        """)


class NewTest(LineTest):
    def test_tables_are_numbered_as_they_are_made(self):
        self.line("""
            start -> 1
            start -> 2
            new 1 0 0 0 -> 1
            new 2 1 1 0 -> 2
            drop 2 2 -> 0
            new 2 1 2 1 -> 3
            get 2 2 0 -> -3
        """)

    def test_six_tables_may_be_made_those_gone_counted(self):
        self.line("""
            start -> 1
            new 1 0 0 0 -> 1
            drop 1 1 -> 0
            new 1 0 0 0 -> 2
            new 1 0 0 0 -> 3
            new 1 0 0 0 -> 4
            new 1 1 0 0 -> 5
            new 1 1 0 0 -> 6
            new 1 0 0 0 -> -6
            drop 1 6 -> 0
            drop 1 5 -> 0
            new 1 1 0 0 -> -6
            put 1 7 1 1 -> -3
            ends 1 -> 0
            start -> 2
            new 2 0 0 0 -> -6
        """)

    def test_the_greatest_sort_and_access(self):
        self.line("""
            start -> 1
            new 1 2 0 0 -> -2
            new 1 4294967295 0 0 -> -2
            new 1 0 3 0 -> -2
            new 1 0 4294967295 0 -> -2
            new 1 1 2 0 -> 1
        """)

    def test_the_heir_is_another_that_lives(self):
        self.line("""
            start -> 1
            start -> 2
            start -> 3
            ends 3 -> 0
            new 1 0 0 1 -> -2
            new 1 0 0 3 -> -2
            new 1 0 0 4 -> -2
            new 1 0 0 4294967295 -> -2
            new 1 0 0 2 -> 1
            new 2 0 0 1 -> 2
            new 2 0 0 2 -> -2
        """)

    def test_a_refused_table_is_not_made(self):
        self.line("""
            start -> 1
            new 1 0 0 1 -> -2
            new 1 9 0 0 -> -2
            new 2 0 0 0 -> -1
            get 1 1 0 -> -3
            new 1 0 0 0 -> 1
            ends 1 -> 0
        """)

    def test_of_several_refusals_the_one_told_first(self):
        made = [f"new 1 0 0 0 -> {number}" for number in range(1, 7)]
        self.line("\n".join(["start -> 1"] + made + [
            "new 2 0 0 0 -> -1",
            "new 2 2 3 2 -> -1",
            "new 0 0 0 0 -> -1",
            "new 4294967295 4294967295 4294967295 4294967295 -> -1",
            "new 1 2 0 0 -> -2",
            "new 1 0 3 0 -> -2",
            "new 1 0 0 1 -> -2",
            "new 1 0 0 2 -> -2",
            "new 1 0 0 0 -> -6",
        ]))


if __name__ == "__main__":
    unittest.main()
