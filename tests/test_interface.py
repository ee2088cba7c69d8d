"""heldtables.tables.answers: its form, the numbers' ends in every place, and a plain model."""

import random
import unittest

from heldtables.tables import answers
from tests.helper import GREATEST, NUMBERS_BEHIND, LineTest


class FormTest(LineTest):
    def test_each_answer_has_its_count_before_it(self):
        calls = [0, 2, 1, 0, 0, 0, 5, 1, 1, 7, 70, 8, 1, 1, 7, 8, 1, 1, 8, 8, 2, 1, 7, 1, 1]
        self.assertEqual(answers(calls), [1, 1, 1, 1, 1, 0, 2, 1, 70, 1, 0, 1, -1, 1, 0])

    def test_the_calls_numbers(self):
        self.line("""
            start -> 1
            start -> 2
            new 1 0 2 2 -> 1
            new 1 1 0 0 -> 2
            put 2 1 3 30 -> 0
            only 2 1 3 31 -> 0
            get 2 1 3 -> 1 30
            out 2 1 3 -> 1
            give 1 1 2 -> 0
            drop 2 1 -> 0
            ends 1 -> 0
        """)

    def test_one_call_alone(self):
        self.assertEqual(answers([0]), [1, 1])
        self.assertEqual(answers([1, 0]), [1, -1])

    def test_the_list_handed_in_is_as_it_was(self):
        calls = [0, 2, 1, 0, 0, 0, 5, 1, 1, 7, 70, 7, 1, 1, 7, 1, 1]
        before = list(calls)
        answers(calls)
        self.assertEqual(calls, before)

    def test_nothing_is_kept_from_one_time_to_the_next(self):
        calls = [0, 2, 1, 0, 0, 0, 5, 1, 1, 7, 70]
        first = answers(calls)
        first.append(5)
        answers([0, 0, 2, 2, 0, 0, 0, 1, 1])
        self.assertEqual(answers(calls), [1, 1, 1, 1, 1, 0])
        self.assertEqual(answers([8, 1, 1, 7]), [1, -1])

    def test_eighty_calls(self):
        self.line("\n".join(
            ["start -> 1", "new 1 0 0 0 -> 1"]
            + [f"put 1 1 {key} {key} -> 0" for key in range(77)]
            + ["drop 1 1 -> 77"]
        ))


class EndsOfNumbersTest(LineTest):
    """0 and the greatest number in each place of a call that else succeeds."""

    BEFORE = [0, 0, 2, 1, 0, 2, 0, 5, 1, 1, 1, 1]
    # A call that succeeds behind BEFORE; then, place by place, what 0 and the greatest answer there.
    CALLS = (
        ([1, 1], [0], [([-1], [-1])]),
        ([2, 1, 1, 1, 2], [2], [([-1], [-1]), ([2], [-2]), ([2], [-2]), ([2], [-2])]),
        ([3, 1, 1], [1], [([-1], [-1]), ([-3], [-3])]),
        ([4, 1, 1, 2], [0], [([-1], [-1]), ([-3], [-3]), ([-2], [-2])]),
        ([5, 1, 1, 1, 5], [1], [([-1], [-1]), ([-3], [-3]), ([0], [-2]), ([1], [-2])]),
        ([6, 1, 1, 2, 5], [1], [([-1], [-1]), ([-3], [-3]), ([1], [-2]), ([1], [-2])]),
        ([7, 1, 1, 1], [1], [([-1], [-1]), ([-3], [-3]), ([0], [0])]),
        ([8, 1, 1, 1], [1, 1], [([-1], [-1]), ([-3], [-3]), ([0], [0])]),
    )

    def test_in_every_place(self):
        for call, answer, by_place in self.CALLS:
            self.assertEqual(len(by_place), NUMBERS_BEHIND[call[0]])
            self.assertEqual(self.ask(self.BEFORE + call)[-1], answer, call)
            for place, expected in enumerate(by_place, start=1):
                for number, wanted in zip((0, GREATEST), expected):
                    asked = call[:place] + [number] + call[place + 1:]
                    self.assertEqual(self.ask(self.BEFORE + asked)[-1], wanted, asked)

    def test_in_all_places_at_once(self):
        for number in range(1, 9):
            for end in (0, GREATEST):
                call = [number] + [end] * NUMBERS_BEHIND[number]
                self.assertEqual(self.ask(call), [[-1]])
                self.assertEqual(self.ask(self.BEFORE + call)[-1], [-1])


class Model:
    """The same calls on tables that are plain dicts, without buckets."""

    def __init__(self):
        self.alive = [False]
        self.tables = [None]

    def lives(self, p):
        return p < len(self.alive) and self.alive[p]

    def table(self, t):
        return self.tables[t] if t < len(self.tables) else None

    def call(self, number, numbers):
        if number == 0:
            return self.start()
        p = numbers[0]
        if not self.lives(p):
            return [-1]
        if number == 1:
            return self.ends(p)
        if number == 2:
            return self.new(p, *numbers[1:])
        table = self.table(numbers[1])
        if table is None:
            return [-3]
        least = {3: 3, 4: 3, 5: 2, 6: 2, 7: 2, 8: 1}[number]
        if table["owner"] != p and table["access"] < least:
            return [-4]
        return self.use(number, numbers[1], table, numbers[2:])

    def start(self):
        if len(self.alive) == 9:
            return [-6]
        self.alive.append(True)
        return [len(self.alive) - 1]

    def ends(self, p):
        self.alive[p] = False
        for t, table in enumerate(self.tables):
            if table is not None and table["owner"] == p:
                if self.lives(table["heir"]):
                    table["owner"], table["heir"] = table["heir"], 0
                else:
                    self.tables[t] = None
        return [len([table for table in self.tables if table is not None])]

    def new(self, p, sort, access, heir):
        if sort not in (0, 1) or access not in (0, 1, 2) or heir == p or not (heir == 0 or self.lives(heir)):
            return [-2]
        if len(self.tables) == 7:
            return [-6]
        self.tables.append({"owner": p, "access": access, "heir": heir, "rows": {}})
        return [len(self.tables) - 1]

    def use(self, number, t, table, rest):
        rows = table["rows"]
        if number == 3:
            self.tables[t] = None
            return [len(rows)]
        if number == 4:
            if not self.lives(rest[0]):
                return [-2]
            table["owner"] = rest[0]
            if table["heir"] == rest[0]:
                table["heir"] = 0
            return [0]
        k = rest[0]
        if number == 7:
            return [0] if rows.pop(k, None) is None else [1]
        if number == 8:
            return [1, rows[k]] if k in rows else [0]
        if k > 999 or rest[1] > 1000000:
            return [-2]
        there = k in rows
        if not (there and number == 6):
            rows[k] = rest[1]
        return [int(there)] if number == 5 else [1 - int(there)]


class ModelTest(LineTest):
    def some_number(self, chance, most):
        if chance.random() < 0.03:
            return chance.choice((0, GREATEST, 999, 1000, 1000000, 1000001))
        return chance.randint(0, most)

    def some_calls(self, chance):
        """A list of 80 calls, most of them about few processes, tables and keys."""
        mosts = ((), (5,), (4, 1, 2, 4), (4, 4), (4, 4, 5), (4, 4, 30, 9), (4, 4, 30, 9), (4, 4, 30), (4, 4, 30))
        weights = (2, 1, 4, 1, 3, 24, 10, chance.choice((4, 20)), 15)
        calls = [[0], [0], [2, 1, 0, 2, 2], [2, 2, 1, 2, 0]]
        while len(calls) < 80:
            number = chance.choices(range(9), weights)[0]
            calls.append([number] + [self.some_number(chance, most) for most in mosts[number]])
        return calls

    def test_many_lists_are_answered_as_by_the_model(self):
        chance = random.Random(20261118)
        for times in range(400):
            calls = self.some_calls(chance)
            model = Model()
            expected = [model.call(call[0], call[1:]) for call in calls]
            flat = [number for call in calls for number in call]
            given = self.ask(flat)
            for at, call in enumerate(calls):
                self.assertEqual(given[at], expected[at], (at, call, calls))
            self.assertEqual(len(given), len(calls))


if __name__ == "__main__":
    unittest.main()
