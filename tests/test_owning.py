"""drop, give and access: who may do what, and the refusals of promise 2."""

import unittest

from tests.helper import LineTest


class DropTest(LineTest):
    def test_it_answers_how_many_rows_it_had(self):
        for sort in (0, 1):
            self.line(f"""
                start -> 1
                new 1 {sort} 0 0 -> 1
                new 1 {sort} 0 0 -> 2
                put 1 1 7 70 -> 0
                put 1 1 3 30 -> 0
                put 1 1 7 71 -> 1
                put 1 1 5 50 -> 0
                out 1 1 3 -> 1
                drop 1 2 -> 0
                drop 1 1 -> 2
                drop 1 1 -> -3
            """)

    def test_only_its_owner_drops_it_whatever_the_access(self):
        for access in (0, 1, 2):
            self.line(f"""
                start -> 1
                start -> 2
                new 1 0 {access} 2 -> 1
                put 1 1 5 50 -> 0
                drop 2 1 -> -4
                get 1 1 5 -> 1 50
                drop 1 1 -> 1
            """)

    def test_a_table_that_is_gone_is_gone_for_all(self):
        self.line("""
            start -> 1
            start -> 2
            new 1 0 2 2 -> 1
            new 1 0 2 0 -> 2
            drop 1 1 -> 0
            get 1 1 5 -> -3
            get 2 1 5 -> -3
            ends 1 -> 0              # nothing is left to the heir
            drop 2 1 -> -3
            drop 2 2 -> -3
        """)

    def test_of_several_refusals_the_one_told_first(self):
        self.line("""
            drop 1 1 -> -1
            start -> 1
            start -> 2
            new 1 0 2 0 -> 1
            drop 0 1 -> -1
            drop 3 1 -> -1
            drop 3 2 -> -1
            drop 4294967295 4294967295 -> -1
            drop 2 0 -> -3
            drop 2 2 -> -3
            drop 2 4294967295 -> -3
            drop 2 1 -> -4
            drop 1 1 -> 0
        """)


class GiveTest(LineTest):
    def test_the_table_is_the_others_then(self):
        self.line("""
            start -> 1
            start -> 2
            new 1 0 0 0 -> 1
            put 1 1 5 50 -> 0
            give 1 1 2 -> 0
            get 1 1 5 -> -4
            drop 1 1 -> -4
            give 1 1 1 -> -4
            get 2 1 5 -> 1 50
            ends 1 -> 1
            drop 2 1 -> 1
        """)

    def test_it_may_be_given_to_its_owner(self):
        self.line("""
            start -> 1
            start -> 2
            new 1 0 0 2 -> 1
            give 1 1 1 -> 0
            put 1 1 5 50 -> 0
            ends 1 -> 1              # its heir is as it was
            get 2 1 5 -> 1 50
        """)

    def test_given_to_its_heir_it_has_none(self):
        self.line("""
            start -> 1
            start -> 2
            new 1 0 0 2 -> 1
            give 1 1 2 -> 0
            give 2 1 1 -> 0
            ends 1 -> 0
            get 2 1 5 -> -3
        """)

    def test_given_to_another_it_keeps_its_heir(self):
        self.line("""
            start -> 1
            start -> 2
            start -> 3
            new 1 0 0 2 -> 1
            give 1 1 3 -> 0
            ends 1 -> 1
            get 2 1 5 -> -4
            ends 3 -> 1
            get 2 1 5 -> 0
            ends 2 -> 0
        """)

    def test_only_its_owner_gives_it_whatever_the_access(self):
        for access in (0, 1, 2):
            self.line(f"""
                start -> 1
                start -> 2
                new 1 0 {access} 2 -> 1
                give 2 1 2 -> -4
                drop 2 1 -> -4
                drop 1 1 -> 0
            """)

    def test_it_is_given_to_one_that_lives(self):
        self.line("""
            start -> 1
            start -> 2
            ends 2 -> 0
            new 1 0 0 0 -> 1
            give 1 1 0 -> -2
            give 1 1 2 -> -2
            give 1 1 3 -> -2
            give 1 1 4294967295 -> -2
            drop 1 1 -> 0            # it's still its owner's
        """)

    def test_of_several_refusals_the_one_told_first(self):
        self.line("""
            give 1 1 1 -> -1
            start -> 1
            start -> 2
            new 1 0 2 0 -> 1
            give 3 1 2 -> -1
            give 3 2 3 -> -1
            give 0 0 0 -> -1
            give 4294967295 4294967295 4294967295 -> -1
            give 2 0 3 -> -3
            give 2 2 1 -> -3
            give 1 2 3 -> -3
            give 1 4294967295 2 -> -3
            give 2 1 3 -> -4
            give 2 1 1 -> -4
            give 1 1 3 -> -2
            drop 1 1 -> 0
        """)


class AccessTest(LineTest):
    def test_the_owner_reads_and_writes_under_each_access(self):
        for sort in (0, 1):
            for access in (0, 1, 2):
                self.line(f"""
                    start -> 1
                    new 1 {sort} {access} 0 -> 1
                    put 1 1 5 50 -> 0
                    only 1 1 6 60 -> 1
                    get 1 1 5 -> 1 50
                    out 1 1 5 -> 1
                    get 1 1 5 -> 0
                """)

    def test_access_0_others_neither_read_nor_write(self):
        self.line("""
            start -> 1
            start -> 2
            new 1 0 0 2 -> 1
            put 1 1 5 50 -> 0
            get 2 1 5 -> -4
            put 2 1 5 51 -> -4
            put 2 1 6 60 -> -4
            only 2 1 6 60 -> -4
            out 2 1 5 -> -4
            get 1 1 5 -> 1 50
            get 1 1 6 -> 0
            drop 1 1 -> 1
        """)

    def test_access_1_others_read_alone(self):
        self.line("""
            start -> 1
            start -> 2
            new 1 1 1 2 -> 1
            put 1 1 5 50 -> 0
            get 2 1 5 -> 1 50
            get 2 1 6 -> 0
            put 2 1 5 51 -> -4
            put 2 1 6 60 -> -4
            only 2 1 6 60 -> -4
            out 2 1 5 -> -4
            get 2 1 5 -> 1 50
            get 2 1 6 -> 0
            drop 1 1 -> 1
        """)

    def test_access_2_others_read_and_write(self):
        self.line("""
            start -> 1
            start -> 2
            new 1 0 2 0 -> 1
            put 2 1 5 50 -> 0
            only 2 1 6 60 -> 1
            get 2 1 5 -> 1 50
            out 2 1 5 -> 1
            get 1 1 5 -> 0
            get 1 1 6 -> 1 60
        """)

    def test_who_gave_a_table_away_is_an_other(self):
        self.line("""
            start -> 1
            start -> 2
            new 1 0 1 0 -> 1
            give 1 1 2 -> 0
            get 1 1 5 -> 0
            put 1 1 5 50 -> -4
            put 2 1 5 50 -> 0
        """)

    def test_a_process_and_then_a_table_are_asked_for_first(self):
        for call in ("put 9 {t} 1000 1000001", "only 9 {t} 1000 1000001", "out 9 {t} 1000", "get 9 {t} 1000"):
            for process, table, refusal in ((9, 1, -1), (9, 2, -1), (0, 1, -1), (2, 2, -3), (2, 0, -3), (2, 1, -4)):
                asked = call.replace("9", str(process), 1).format(t=table)
                self.line(f"""
                    start -> 1
                    start -> 2
                    new 1 0 0 0 -> 1
                    put 1 1 5 50 -> 0
                    {asked} -> {refusal}
                    get 1 1 5 -> 1 50
                    drop 1 1 -> 1
                """)


if __name__ == "__main__":
    unittest.main()
