"""first, next and order: a walk's order, and their refusals in promises 1 to 3."""

import random
import unittest

from tests.helper import LineTest

BUCKETS = "start -> 1\nnew 1 0 0 0 -> 1\n"
ORDER = "start -> 1\nnew 1 1 0 0 -> 1\n"


class WholeWalkTest(LineTest):
    def test_no_rows(self):
        for before in (BUCKETS, ORDER):
            self.line(before + """
                first 1 1 -> 0
                order 1 -> 0
                put 1 1 5 5 -> 0
                first 1 1 -> 1 5
                order 1 -> 1 5
                out 1 1 5 -> 1
                first 1 1 -> 0
                order 1 -> 0
            """)

    def test_bucket_by_bucket_each_from_its_first(self):
        self.line(BUCKETS + """
            put 1 1 4 4 -> 0
            put 1 1 3 3 -> 0
            put 1 1 0 0 -> 0
            put 1 1 1 1 -> 0
            order 1 -> 4 4 0 3 1
            first 1 1 -> 1 4
            next 1 1 4 -> 1 0
            next 1 1 0 -> 1 3
            next 1 1 3 -> 1 1
            next 1 1 1 -> 0
        """)

    def test_in_order_by_key(self):
        self.line(ORDER + """
            put 1 1 500 5 -> 0
            put 1 1 3 9 -> 0
            put 1 1 999 1 -> 0
            put 1 1 0 7 -> 0
            put 1 1 4 0 -> 0
            order 1 -> 5 0 3 4 500 999
            first 1 1 -> 1 0
            next 1 1 0 -> 1 3
            next 1 1 3 -> 1 4
            next 1 1 4 -> 1 500
            next 1 1 500 -> 1 999
            next 1 1 999 -> 0
        """)

    def test_empty_buckets_are_passed_over(self):
        self.line(BUCKETS + """
            put 1 1 3 3 -> 0
            first 1 1 -> 1 3
            next 1 1 3 -> 0
            put 1 1 0 0 -> 0
            put 1 1 8 8 -> 0
            put 1 1 16 16 -> 0
            put 1 1 24 24 -> 0
            put 1 1 32 32 -> 0
            put 1 1 40 40 -> 0
            table 1 -> 0 1 0 0 7 4 0
            order 1 -> 7 0 8 16 24 32 40 3
            next 1 1 40 -> 1 3
            next 1 1 3 -> 0
            next 1 1 24 -> 1 32
        """)

    def test_a_key_put_in_again_is_where_it_was(self):
        self.line(BUCKETS + """
            put 1 1 4 4 -> 0
            put 1 1 2 2 -> 0
            put 1 1 0 0 -> 0
            put 1 1 4 9 -> 1
            only 1 1 2 9 -> 0
            order 1 -> 3 4 2 0
            out 1 1 4 -> 1
            put 1 1 4 4 -> 0
            order 1 -> 3 2 0 4
        """)

    def test_it_asks_for_nothing_to_be_held(self):
        self.line(BUCKETS + """
            put 1 1 0 0 -> 0
            put 1 1 2 2 -> 0
            put 1 1 4 4 -> 0
            put 1 1 6 6 -> 0
            first 1 1 -> 1 0
            next 1 1 0 -> 1 2
            put 1 1 8 8 -> 0         # the buckets are dealt anew
            order 1 -> 5 0 4 8 2 6
            next 1 1 2 -> 1 6
            next 1 1 6 -> 0
            table 1 -> 0 1 0 0 5 3 0
        """)


class NextTest(LineTest):
    def test_in_buckets_one_does_not_know_behind_a_key_that_is_not_there(self):
        self.line(BUCKETS + """
            next 1 1 0 -> -5
            put 1 1 4 4 -> 0
            put 1 1 999 9 -> 0
            next 1 1 0 -> -5
            next 1 1 3 -> -5
            next 1 1 5 -> -5
            next 1 1 998 -> -5
            next 1 1 1000 -> -5
            next 1 1 4294967295 -> -5
            next 1 1 4 -> 1 999
            next 1 1 999 -> 0
            out 1 1 4 -> 1
            next 1 1 4 -> -5         # nobody holds it: it's gone
            order 1 -> 1 999
        """)

    def test_in_order_the_key_needn_t_be_there(self):
        self.line(ORDER + """
            next 1 1 0 -> 0
            next 1 1 4294967295 -> 0
            put 1 1 4 4 -> 0
            put 1 1 999 9 -> 0
            next 1 1 0 -> 1 4
            next 1 1 3 -> 1 4
            next 1 1 4 -> 1 999
            next 1 1 5 -> 1 999
            next 1 1 998 -> 1 999
            next 1 1 999 -> 0
            next 1 1 1000 -> 0
            next 1 1 4294967295 -> 0
            out 1 1 4 -> 1
            next 1 1 4 -> 1 999
            next 1 1 0 -> 1 999
        """)

    def test_behind_what_was_taken_out_and_stays(self):
        self.line(BUCKETS + """
            put 1 1 0 0 -> 0
            put 1 1 2 2 -> 0
            put 1 1 4 4 -> 0
            put 1 1 1 1 -> 0
            hold 1 1 -> 1
            out 1 1 2 -> 1
            next 1 1 2 -> 1 4
            next 1 1 0 -> 1 4
            out 1 1 4 -> 1
            next 1 1 2 -> 1 1
            next 1 1 0 -> 1 1
            next 1 1 4 -> 1 1
            out 1 1 1 -> 1
            next 1 1 1 -> 0
            next 1 1 2 -> 0
            out 1 1 0 -> 1
            first 1 1 -> 0
            next 1 1 0 -> 0
            next 1 1 6 -> -5
            put 1 1 4 44 -> 0
            first 1 1 -> 1 4
            next 1 1 0 -> 1 4
            next 1 1 4 -> 0
            letgo 1 1 -> 0
            next 1 1 0 -> -5
            next 1 1 2 -> -5
            next 1 1 4 -> 0
        """)

    def test_first_passes_over_what_was_taken_out(self):
        for sort, second in ((0, 2), (1, 1)):
            self.line(f"""
                start -> 1
                new 1 {sort} 0 0 -> 1
                put 1 1 0 0 -> 0
                put 1 1 2 2 -> 0
                put 1 1 1 1 -> 0
                hold 1 1 -> 1
                out 1 1 0 -> 1
                first 1 1 -> 1 {second}
                next 1 1 0 -> 1 {second}
                put 1 1 0 9 -> 0
                first 1 1 -> 1 0
            """)

    def test_in_order_behind_what_was_taken_out_of_a_held_table(self):
        self.line(ORDER + """
            put 1 1 3 3 -> 0
            put 1 1 5 5 -> 0
            put 1 1 7 7 -> 0
            hold 1 1 -> 1
            out 1 1 5 -> 1
            next 1 1 3 -> 1 7
            next 1 1 5 -> 1 7
            put 1 1 6 6 -> 0
            next 1 1 5 -> 1 6
            out 1 1 7 -> 1
            next 1 1 6 -> 0
            order 1 -> 2 3 6
            put 1 1 5 55 -> 0
            next 1 1 3 -> 1 5
            letgo 1 1 -> 0
            order 1 -> 3 3 5 6
            next 1 1 4 -> 1 5
        """)


class WhoMayWalkTest(LineTest):
    def test_under_each_access(self):
        for sort in (0, 1):
            for access, first, behind in ((0, "-4", "-4"), (1, "1 5", "1 7"), (2, "1 5", "1 7")):
                self.line(f"""
                    start -> 1
                    start -> 2
                    new 1 {sort} {access} 2 -> 1
                    put 1 1 5 50 -> 0
                    put 1 1 7 70 -> 0
                    first 2 1 -> {first}
                    next 2 1 5 -> {behind}
                    first 1 1 -> 1 5
                    next 1 1 5 -> 1 7
                    order 1 -> 2 5 7
                    give 1 1 2 -> 0
                    first 2 1 -> 1 5
                    next 2 1 7 -> 0
                    first 1 1 -> {first}
                    next 1 1 5 -> {behind}
                """)

    def test_of_several_refusals_the_one_told_first(self):
        self.line("""
            first 1 1 -> -1
            next 1 1 5 -> -1
            order 1 -> -3
            start -> 1
            start -> 2
            start -> 3
            ends 3 -> 0
            new 1 0 0 0 -> 1
            put 1 1 5 50 -> 0
            first 0 1 -> -1
            first 3 1 -> -1
            first 3 2 -> -1
            first 4294967295 4294967295 -> -1
            first 2 2 -> -3
            first 2 0 -> -3
            first 1 4294967295 -> -3
            first 2 1 -> -4
            next 0 1 5 -> -1
            next 3 1 6 -> -1
            next 3 2 6 -> -1
            next 4294967295 4294967295 4294967295 -> -1
            next 2 2 6 -> -3
            next 2 0 5 -> -3
            next 1 4294967295 5 -> -3
            next 2 1 6 -> -4
            next 2 1 5 -> -4
            next 1 1 6 -> -5
            order 0 -> -3
            order 2 -> -3
            order 4294967295 -> -3
            order 1 -> 1 5
            drop 1 1 -> 1
            order 1 -> -3
            first 1 1 -> -3
            next 1 1 5 -> -3
        """)


class WalkWhileOthersWriteTest(LineTest):
    """A walk of a held table comes to nothing twice and to each that stood all along."""

    def last(self, calls):
        return self.ask([number for call in calls for number in call])[-1]

    def walk(self, chance, sort):
        calls = [[0], [0], [0], [2, 1, sort, 2, 0]]
        keys = chance.sample(range(40), chance.randint(1, 12))
        calls += [[5, 3, 1, key, key] for key in keys] + [[12, 2, 1]]
        stood, met = set(keys), []
        answer = self.last(calls + [[10, 2, 1]])
        while len(answer) == 2:
            met.append(answer[1])
            for step in range(chance.randint(0, 2)):
                key = chance.randrange(40)
                if chance.random() < 0.5:
                    calls.append([7, 3, 1, key])
                    stood.discard(key)
                else:
                    calls.append([5, 3, 1, key, 0])
            if chance.random() < 0.1:
                calls.append(chance.choice(([4, 1, 1, 3], [1, 1], [12, 3, 1], [13, 3, 1], [13, 1, 1])))
            answer = self.last(calls + [[11, 2, 1, met[-1]]])
        return answer, stood, met

    def test_nothing_twice_and_each_that_stood_all_along(self):
        chance = random.Random(5)
        for times in range(150):
            answer, stood, met = self.walk(chance, times % 2)
            self.assertIn(answer, ([0], [-3]))
            self.assertEqual(len(met), len(set(met)))
            if answer == [0]:
                self.assertEqual(sorted(stood - set(met)), [])
            if times % 2 == 1:
                self.assertEqual(met, sorted(met))


if __name__ == "__main__":
    unittest.main()
