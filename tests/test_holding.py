"""hold and letgo, and what stays and what is tidied while and after a table is held."""

import unittest

from tests.helper import LineTest


def rows(form, keys):
    return "\n".join(form.format(k=key) for key in keys) + "\n"


class HoldTest(LineTest):
    def test_it_is_held_by_one_several_times_and_by_several(self):
        for sort in (0, 1):
            self.line(f"""
                start -> 1
                start -> 2
                start -> 3
                new 1 {sort} 1 0 -> 1
                hold 1 1 -> 1
                hold 1 1 -> 2
                hold 2 1 -> 3
                letgo 1 1 -> 2
                hold 3 1 -> 3
                letgo 3 1 -> 2
                letgo 3 1 -> -5
                letgo 1 1 -> 1
                letgo 1 1 -> -5
                letgo 2 1 -> 0
                letgo 2 1 -> -5
                hold 2 1 -> 1
            """)

    def test_each_table_is_held_by_itself(self):
        self.line("""
            start -> 1
            new 1 0 0 0 -> 1
            new 1 0 0 0 -> 2
            hold 1 1 -> 1
            letgo 1 2 -> -5
            hold 1 2 -> 1
            letgo 1 1 -> 0
            letgo 1 2 -> 0
        """)

    def test_twenty_times_by_one(self):
        for sort in (0, 1):
            self.line(f"start -> 1\nstart -> 2\nnew 1 {sort} 1 0 -> 1\n"
                + rows("hold 1 1 -> {k}", range(1, 21)) + """
                hold 1 1 -> -6
                hold 2 1 -> -6
                letgo 2 1 -> -5
                letgo 1 1 -> 19
                hold 2 1 -> 20
                hold 2 1 -> -6
                hold 1 1 -> -6
                letgo 2 1 -> 19
                hold 1 1 -> 20
                """ + rows("letgo 1 1 -> {k}", range(19, -1, -1)) + "letgo 1 1 -> -5")

    def test_twenty_times_by_several_together(self):
        self.line("start -> 1\nstart -> 2\nstart -> 3\nnew 1 0 1 0 -> 1\nnew 1 0 1 0 -> 2\n"
            + rows("hold 1 1 -> {k}", range(1, 8))
            + rows("hold 2 1 -> {k}", range(8, 15))
            + rows("hold 3 1 -> {k}", range(15, 21)) + """
            hold 3 1 -> -6
            hold 1 1 -> -6
            hold 2 1 -> -6
            hold 2 2 -> 1
            table 1 -> 0 1 0 1 0 2 20
            ends 2 -> 2
            table 1 -> 0 1 0 1 0 2 13
            hold 3 1 -> 14
            table 2 -> 0 1 0 1 0 2 0
        """)

    def test_who_may_under_each_access(self):
        for access, held, let in ((0, -4, -4), (1, 2, 1), (2, 2, 1)):
            self.line(f"""
                start -> 1
                start -> 2
                new 1 0 {access} 2 -> 1
                hold 1 1 -> 1
                hold 2 1 -> {held}
                letgo 2 1 -> {let}
                letgo 2 1 -> {-4 if access == 0 else -5}
                letgo 1 1 -> 0
            """)

    def test_who_mayn_t_read_any_more_can_t_let_go(self):
        self.line("""
            start -> 1
            start -> 2
            new 1 0 0 0 -> 1
            put 1 1 0 0 -> 0
            put 1 1 2 2 -> 0
            hold 1 1 -> 1
            give 1 1 2 -> 0
            hold 1 1 -> -4
            letgo 1 1 -> -4
            letgo 2 1 -> -5
            table 1 -> 0 2 0 0 2 2 1
            out 2 1 0 -> 1
            next 2 1 0 -> 1 2
            give 2 1 1 -> 0
            letgo 1 1 -> 0
            next 1 1 0 -> -5
        """)

    def test_of_several_refusals_the_one_told_first(self):
        self.line("hold 1 1 -> -1\nletgo 1 1 -> -1\n"
            "start -> 1\nstart -> 2\nstart -> 3\nends 3 -> 0\nnew 1 0 0 0 -> 1\nput 1 1 5 5 -> 0\n"
            + rows("hold 1 1 -> {k}", range(1, 21)) + """
            hold 0 1 -> -1
            hold 3 1 -> -1
            hold 3 2 -> -1
            hold 4294967295 4294967295 -> -1
            hold 2 2 -> -3
            hold 2 0 -> -3
            hold 1 4294967295 -> -3
            hold 2 1 -> -4
            hold 1 1 -> -6
            letgo 0 1 -> -1
            letgo 3 1 -> -1
            letgo 3 2 -> -1
            letgo 4294967295 4294967295 -> -1
            letgo 2 2 -> -3
            letgo 2 0 -> -3
            letgo 1 4294967295 -> -3
            letgo 2 1 -> -4
            table 1 -> 0 1 0 0 1 2 20
            order 1 -> 1 5
        """)

    def test_letgo_by_one_that_does_not_hold_it_changes_nothing(self):
        for sort, keys in ((0, "0 4 1"), (1, "0 1 4")):
            self.line(f"""
                start -> 1
                start -> 2
                start -> 3
                new 1 {sort} 2 0 -> 1
                put 1 1 0 0 -> 0
                put 1 1 2 2 -> 0
                put 1 1 4 4 -> 0
                put 1 1 1 1 -> 0
                letgo 1 1 -> -5
                hold 2 1 -> 1
                out 3 1 2 -> 1
                letgo 3 1 -> -5
                letgo 1 1 -> -5
                table 1 -> {sort} 1 0 2 3 {2 - sort} 1
                next 2 1 2 -> 1 4
                letgo 2 1 -> 0
                order 1 -> 3 {keys}
            """)


class HeldTest(LineTest):
    BEFORE = "start -> 1\nstart -> 2\nstart -> 3\nnew 1 0 2 0 -> 1\n"

    def test_nothing_is_moved_and_the_buckets_stay(self):
        self.line(self.BEFORE + rows("put 1 1 {k} {k} -> 0", range(4)) + """
            hold 2 1 -> 1
            put 3 1 4 4 -> 0
            table 1 -> 0 1 0 2 5 2 1
            order 1 -> 5 0 2 4 1 3
            only 3 1 5 5 -> 1
            put 1 1 6 6 -> 0
            put 2 1 7 7 -> 0
            put 3 1 8 8 -> 0
            table 1 -> 0 1 0 2 9 2 1
            order 1 -> 9 0 2 4 6 8 1 3 5 7
            letgo 2 1 -> 0
            table 1 -> 0 1 0 2 9 5 0
            order 1 -> 9 0 8 1 5 2 6 3 7 4
        """)

    def test_buckets_do_not_shrink_while_it_is_held(self):
        self.line(self.BEFORE + rows("put 1 1 {k} {k} -> 0", range(7)) + "hold 2 1 -> 1\n"
            + rows("out 3 1 {k} -> 1", (0, 1, 2, 3, 4, 6)) + """
            table 1 -> 0 1 0 2 1 4 1
            order 1 -> 1 5
            next 2 1 6 -> 0
            next 2 1 4 -> 1 5
            out 3 1 5 -> 1
            table 1 -> 0 1 0 2 0 4 1
            letgo 2 1 -> 0
            table 1 -> 0 1 0 2 0 2 0
        """)

    def test_the_key_put_in_again_is_in_its_place(self):
        self.line(self.BEFORE + rows("put 1 1 {k} {k} -> 0", (4, 2, 0, 1)) + """
            hold 2 1 -> 1
            out 3 1 2 -> 1
            order 1 -> 3 4 0 1
            put 3 1 6 6 -> 0
            order 1 -> 4 4 0 6 1
            put 3 1 2 22 -> 0
            order 1 -> 5 4 2 0 6 1
            out 3 1 4 -> 1
            only 3 1 4 44 -> 1
            order 1 -> 5 4 2 0 6 1
            get 2 1 2 -> 1 22
            get 2 1 4 -> 1 44
            out 3 1 0 -> 1
            table 1 -> 0 1 0 2 4 2 1
            letgo 2 1 -> 0
            order 1 -> 4 4 2 6 1
            out 3 1 4 -> 1
            put 3 1 4 4 -> 0
            order 1 -> 4 2 6 4 1
        """)

    def test_a_key_that_came_while_it_was_held_stays_too(self):
        self.line(self.BEFORE + """
            hold 2 1 -> 1
            put 3 1 8 8 -> 0
            put 3 1 6 6 -> 0
            out 3 1 8 -> 1
            next 2 1 8 -> 1 6
            put 3 1 8 9 -> 0
            order 1 -> 2 8 6
            out 3 1 8 -> 1
            letgo 2 1 -> 0
            next 2 1 8 -> -5
            put 3 1 8 8 -> 0
            order 1 -> 2 6 8
        """)

    def test_in_order_rows_stand_by_key(self):
        self.line("start -> 1\nnew 1 1 0 0 -> 1\n" + rows("put 1 1 {k} {k} -> 0", (5, 1, 9)) + """
            hold 1 1 -> 1
            put 1 1 3 3 -> 0
            out 1 1 5 -> 1
            put 1 1 4 4 -> 0
            put 1 1 6 6 -> 0
            order 1 -> 5 1 3 4 6 9
            put 1 1 5 55 -> 0
            order 1 -> 6 1 3 4 5 6 9
            table 1 -> 1 1 0 0 6 1 1
            out 1 1 9 -> 1
            drop 1 1 -> 5
        """)

    def test_held_by_one_that_is_not_the_owner(self):
        self.line("""
            start -> 1
            start -> 2
            new 1 0 1 0 -> 1
            put 1 1 2 2 -> 0
            put 1 1 4 4 -> 0
            hold 2 1 -> 1
            out 1 1 2 -> 1
            next 2 1 2 -> 1 4
            put 2 1 2 2 -> -4
            out 2 1 4 -> -4
            bump 2 1 4 1 -> -4
            order 1 -> 1 4
            letgo 1 1 -> -5
            letgo 2 1 -> 0
            next 2 1 2 -> -5
        """)

    def test_a_refused_call_tidies_nothing(self):
        self.line(self.BEFORE + """
            put 1 1 2 2 -> 0
            put 1 1 4 4 -> 0
            hold 2 1 -> 1
            out 3 1 2 -> 1
            put 3 1 1000 1 -> -2
            bump 3 1 2 1 -> -5
            letgo 3 1 -> -5
            give 1 1 4 -> -2
            drop 2 1 -> -4
            ends 4 -> -1
            next 2 1 6 -> -5
            next 2 1 2 -> 1 4
            table 1 -> 0 1 0 2 1 2 1
        """)


class TidiedTest(LineTest):
    BEFORE = "start -> 1\nstart -> 2\nstart -> 3\nnew 1 0 2 3 -> 1\n" + rows("put 1 1 {k} {k} -> 0", (0, 2, 4, 1))

    def test_not_while_another_still_holds_it(self):
        self.line(self.BEFORE + """
            hold 1 1 -> 1
            hold 2 1 -> 2
            out 3 1 2 -> 1
            letgo 1 1 -> 1
            next 3 1 2 -> 1 4
            put 3 1 6 6 -> 0
            put 3 1 8 8 -> 0
            put 3 1 10 10 -> 0
            table 1 -> 0 1 3 2 6 2 1
            letgo 2 1 -> 0
            next 3 1 2 -> -5
            table 1 -> 0 1 3 2 6 3 0
            order 1 -> 6 0 4 8 1 6 10
        """)

    def test_not_while_the_same_one_holds_it_once_more(self):
        self.line(self.BEFORE + """
            hold 2 1 -> 1
            hold 2 1 -> 2
            out 3 1 2 -> 1
            letgo 2 1 -> 1
            next 3 1 2 -> 1 4
            put 3 1 2 22 -> 0
            order 1 -> 4 0 2 4 1
            out 3 1 2 -> 1
            letgo 2 1 -> 0
            next 3 1 2 -> -5
            put 3 1 2 2 -> 0
            order 1 -> 4 0 4 2 1
        """)

    def test_when_the_last_holder_ends_however_often_it_held_it(self):
        self.line(self.BEFORE + """
            hold 2 1 -> 1
            hold 2 1 -> 2
            hold 2 1 -> 3
            out 3 1 2 -> 1
            put 3 1 6 6 -> 0
            put 3 1 8 8 -> 0
            table 1 -> 0 1 3 2 5 2 3
            ends 2 -> 1
            table 1 -> 0 1 3 2 5 3 0
            order 1 -> 5 0 4 8 1 6
            next 3 1 2 -> -5
        """)

    def test_not_when_one_of_several_holders_ends(self):
        self.line(self.BEFORE + """
            hold 2 1 -> 1
            hold 2 1 -> 2
            hold 3 1 -> 3
            out 3 1 2 -> 1
            ends 2 -> 1
            table 1 -> 0 1 3 2 3 2 1
            next 3 1 2 -> 1 4
            letgo 3 1 -> 0
            next 3 1 2 -> -5
        """)

    def test_not_when_one_ends_that_did_not_hold_it(self):
        self.line(self.BEFORE + """
            hold 2 1 -> 1
            out 3 1 2 -> 1
            ends 3 -> 1
            table 1 -> 0 1 3 2 3 2 1
            next 2 1 2 -> 1 4
        """)

    def test_each_table_that_the_one_that_ends_held(self):
        self.line("""
            start -> 1
            start -> 2
            new 1 0 2 0 -> 1
            new 1 1 2 0 -> 2
            new 1 0 2 0 -> 3
            put 1 1 2 2 -> 0
            put 1 3 2 2 -> 0
            put 1 3 4 4 -> 0
            hold 2 1 -> 1
            hold 2 2 -> 1
            hold 2 3 -> 1
            hold 1 3 -> 2
            out 1 1 2 -> 1
            out 1 3 2 -> 1
            ends 2 -> 3
            table 1 -> 0 1 0 2 0 2 0
            table 2 -> 1 1 0 2 0 1 0
            table 3 -> 0 1 0 2 1 2 1
            next 1 1 2 -> -5
            next 1 3 2 -> 1 4
        """)

    def test_buckets_dealt_anew_several_times_upwards(self):
        self.line("start -> 1\nnew 1 0 0 0 -> 1\nhold 1 1 -> 1\n"
            + rows("put 1 1 {k} 0 -> 0", (12, 6, 2, 3, 1, 0, 5, 4, 9, 8, 10)) + """
            table 1 -> 0 1 0 0 11 2 1
            order 1 -> 11 12 6 2 0 4 8 10 3 1 5 9
            letgo 1 1 -> 0
            table 1 -> 0 1 0 0 11 6 0
            order 1 -> 11 0 8 1 9 6 2 10 3 12 4 5
        """)

    def test_buckets_dealt_anew_several_times_downwards(self):
        # Dealt from nine buckets to four at once, 4 would stand ahead of 8.
        self.line("start -> 1\nnew 1 0 0 0 -> 1\n" + rows("put 1 1 {k} 0 -> 0", range(17)) + """
            table 1 -> 0 1 0 0 17 9 0
            order 1 -> 17 0 16 1 9 2 10 3 11 4 12 5 13 6 14 7 15 8
            hold 1 1 -> 1
            """ + rows("out 1 1 {k} -> 1", (0, 1, 2, 3, 5, 6, 7, 9, 10, 11, 12, 13, 14, 15, 16)) + """
            table 1 -> 0 1 0 0 2 9 1
            order 1 -> 2 4 8
            letgo 1 1 -> 0
            table 1 -> 0 1 0 0 2 4 0
            order 1 -> 2 8 4
            next 1 1 8 -> 1 4
        """)

    def test_what_was_taken_out_does_not_count_for_the_buckets(self):
        self.line("start -> 1\nnew 1 0 0 0 -> 1\nhold 1 1 -> 1\n"
            + rows("put 1 1 {k} 0 -> 0", range(9)) + rows("out 1 1 {k} -> 1", range(5)) + """
            table 1 -> 0 1 0 0 4 2 1
            letgo 1 1 -> 0
            table 1 -> 0 1 0 0 4 2 0
            order 1 -> 4 6 8 5 7
        """)


class HeldAndGivenTest(LineTest):
    BEFORE = "start -> 1\nstart -> 2\nstart -> 3\nnew 1 0 1 3 -> 1\n" + rows("put 1 1 {k} {k} -> 0", (0, 2, 4))

    def test_given_it_is_held_as_before(self):
        self.line(self.BEFORE + """
            hold 1 1 -> 1
            hold 2 1 -> 2
            out 1 1 2 -> 1
            give 1 1 2 -> 0
            table 1 -> 0 2 3 1 2 2 2
            next 3 1 2 -> 1 4
            letgo 2 1 -> 1
            next 3 1 2 -> 1 4
            letgo 1 1 -> 0
            next 3 1 2 -> -5
        """)

    def test_dropped_it_is_gone_for_its_holders(self):
        self.line(self.BEFORE + """
            hold 2 1 -> 1
            out 1 1 2 -> 1
            drop 2 1 -> -4
            drop 1 1 -> 2
            letgo 2 1 -> -3
            next 2 1 2 -> -3
            hold 2 1 -> -3
            table 1 -> -3
            new 1 0 1 0 -> 2
            letgo 2 2 -> -5
            ends 2 -> 1
        """)

    def test_left_to_an_heir_others_hold_it_as_before(self):
        self.line(self.BEFORE + """
            hold 1 1 -> 1
            hold 2 1 -> 2
            hold 3 1 -> 3
            out 1 1 2 -> 1
            ends 1 -> 1
            table 1 -> 0 3 0 1 2 2 2
            next 2 1 2 -> 1 4
            letgo 3 1 -> 1
            next 2 1 2 -> 1 4
            ends 2 -> 1
            next 3 1 2 -> -5
            table 1 -> 0 3 0 1 2 2 0
        """)

    def test_left_to_an_heir_it_is_tidied_if_its_owner_alone_held_it(self):
        self.line(self.BEFORE + """
            hold 1 1 -> 1
            hold 1 1 -> 2
            out 1 1 2 -> 1
            put 1 1 6 6 -> 0
            put 1 1 8 8 -> 0
            put 1 1 10 10 -> 0
            table 1 -> 0 1 3 1 5 2 2
            ends 1 -> 1
            table 1 -> 0 3 0 1 5 3 0
            order 1 -> 5 0 4 8 6 10
            next 3 1 2 -> -5
        """)

    def test_without_an_heir_it_is_gone_though_another_holds_it(self):
        self.line("""
            start -> 1
            start -> 2
            new 1 0 1 0 -> 1
            hold 2 1 -> 1
            ends 1 -> 0
            letgo 2 1 -> -3
            hold 2 1 -> -3
            ends 2 -> 0
        """)


if __name__ == "__main__":
    unittest.main()
