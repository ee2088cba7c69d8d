"""heldtables.tables.answers: its form, and the numbers' ends in every place."""

import unittest

from heldtables.tables import answers
from tests.helper import GREATEST, NUMBERS_BEHIND, LineTest


class FormTest(LineTest):
    def test_each_answer_has_its_count_before_it(self):
        calls = [0, 2, 1, 0, 0, 0, 5, 1, 1, 7, 70, 8, 1, 1, 7, 8, 1, 1, 8, 8, 2, 1, 7, 1, 1]
        self.assertEqual(answers(calls), [1, 1, 1, 1, 1, 0, 2, 1, 70, 1, 0, 1, -1, 1, 0])

    def test_the_calls_numbers(self):
        self.line("""
            start -> 1
            start -> 2
            new 1 0 2 2 -> 1
            new 1 1 0 0 -> 2
            put 2 1 3 30 -> 0
            only 2 1 3 31 -> 0
            get 2 1 3 -> 1 30
            out 2 1 3 -> 1
            give 1 1 2 -> 0
            drop 2 1 -> 0
            put 1 2 4 40 -> 0
            bump 1 2 4 2 -> 42
            hold 1 2 -> 1
            first 1 2 -> 1 4
            next 1 2 4 -> 0
            table 2 -> 1 1 0 0 1 1 1
            letgo 1 2 -> 0
            which 1 2 42 42 -> 1 4 42
            order 2 -> 1 4
            ends 1 -> 0
        """)

    def test_lists_that_are_answered_have_no_count_but_where_one_is_told(self):
        calls = [0, 2, 1, 0, 0, 0, 5, 1, 1, 7, 70, 5, 1, 1, 4, 40, 10, 1, 1, 11, 1, 1, 7, 14, 1, 1, 0, 70, 15, 1, 16, 1]
        self.assertEqual(answers(calls), [
            1, 1, 1, 1, 1, 0, 1, 0,
            2, 1, 4,
            1, 0,
            5, 2, 4, 40, 7, 70,
            7, 0, 1, 0, 0, 2, 2, 0,
            3, 2, 4, 7,
        ])

    def test_one_call_alone(self):
        self.assertEqual(answers([0]), [1, 1])
        self.assertEqual(answers([1, 0]), [1, -1])

    def test_the_list_handed_in_is_as_it_was(self):
        calls = [0, 2, 1, 0, 0, 0, 5, 1, 1, 7, 70, 12, 1, 1, 9, 1, 1, 7, 5, 7, 1, 1, 7, 13, 1, 1, 16, 1, 1, 1]
        before = list(calls)
        answers(calls)
        self.assertEqual(calls, before)

    def test_nothing_is_kept_from_one_time_to_the_next(self):
        calls = [0, 2, 1, 0, 0, 0, 5, 1, 1, 7, 70, 12, 1, 1]
        first = answers(calls)
        first.append(5)
        answers([0, 0, 2, 2, 0, 0, 0, 1, 1])
        self.assertEqual(answers(calls), [1, 1, 1, 1, 1, 0, 1, 1])
        self.assertEqual(answers([8, 1, 1, 7]), [1, -1])
        self.assertEqual(answers([15, 1]), [1, -3])

    def test_eighty_calls(self):
        self.line("\n".join(
            ["start -> 1", "new 1 0 0 0 -> 1"]
            + [f"put 1 1 {key} {key} -> 0" for key in range(77)]
            + ["drop 1 1 -> 77"]
        ))


class EndsOfNumbersTest(LineTest):
    """0 and the greatest number in each place of a call that else succeeds."""

    BEFORE = [0, 0, 2, 1, 0, 2, 0, 5, 1, 1, 1, 1, 12, 1, 1]
    # A call that succeeds behind BEFORE; then, place by place, what 0 and the greatest answer there.
    CALLS = (
        ([1, 1], [0], [([-1], [-1])]),
        ([2, 1, 1, 1, 2], [2], [([-1], [-1]), ([2], [-2]), ([2], [-2]), ([2], [-2])]),
        ([3, 1, 1], [1], [([-1], [-1]), ([-3], [-3])]),
        ([4, 1, 1, 2], [0], [([-1], [-1]), ([-3], [-3]), ([-2], [-2])]),
        ([5, 1, 1, 1, 5], [1], [([-1], [-1]), ([-3], [-3]), ([0], [-2]), ([1], [-2])]),
        ([6, 1, 1, 2, 5], [1], [([-1], [-1]), ([-3], [-3]), ([1], [-2]), ([1], [-2])]),
        ([7, 1, 1, 1], [1], [([-1], [-1]), ([-3], [-3]), ([0], [0])]),
        ([8, 1, 1, 1], [1, 1], [([-1], [-1]), ([-3], [-3]), ([0], [0])]),
        ([9, 1, 1, 1, 5], [6], [([-1], [-1]), ([-3], [-3]), ([-5], [-5]), ([1], [-2])]),
        ([10, 1, 1], [1, 1], [([-1], [-1]), ([-3], [-3])]),
        ([11, 1, 1, 1], [0], [([-1], [-1]), ([-3], [-3]), ([-5], [-5])]),
        ([12, 1, 1], [2], [([-1], [-1]), ([-3], [-3])]),
        ([13, 1, 1], [0], [([-1], [-1]), ([-3], [-3])]),
        ([14, 1, 1, 1, 9], [1, 1, 1], [([-1], [-1]), ([-3], [-3]), ([1, 1, 1], [0]), ([0], [1, 1, 1])]),
        ([15, 1], [0, 1, 0, 2, 1, 2, 1], [([-3], [-3])]),
        ([16, 1], [1, 1], [([-3], [-3])]),
    )

    def test_in_every_place(self):
        for call, answer, by_place in self.CALLS:
            self.assertEqual(len(by_place), NUMBERS_BEHIND[call[0]])
            self.assertEqual(self.ask(self.BEFORE + call)[-1], answer, call)
            for place, expected in enumerate(by_place, start=1):
                for number, wanted in zip((0, GREATEST), expected):
                    asked = call[:place] + [number] + call[place + 1:]
                    self.assertEqual(self.ask(self.BEFORE + asked)[-1], wanted, asked)

    def test_next_in_order(self):
        before = [0, 2, 1, 1, 0, 0, 5, 1, 1, 1, 1]
        self.assertEqual(self.ask(before + [11, 1, 1, 0])[-1], [1, 1])
        self.assertEqual(self.ask(before + [11, 1, 1, GREATEST])[-1], [0])

    def test_in_all_places_at_once(self):
        for number in range(1, 17):
            refusal = [-3] if number in (15, 16) else [-1]
            for end in (0, GREATEST):
                call = [number] + [end] * NUMBERS_BEHIND[number]
                self.assertEqual(self.ask(call), [refusal])
                self.assertEqual(self.ask(self.BEFORE + call)[-1], refusal)


if __name__ == "__main__":
    unittest.main()
