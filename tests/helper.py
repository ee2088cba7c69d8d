"""What the tests share: lists of calls written as text, one call a row, with its answer."""

import unittest

from heldtables.tables import answers

GREATEST = 4294967295

NAMES = (
    "start", "ends", "new", "drop", "give", "put", "only", "out", "get",
    "bump", "first", "next", "hold", "letgo", "which", "table", "order",
)
NUMBERS_BEHIND = (0, 1, 4, 2, 3, 4, 4, 3, 3, 4, 2, 3, 2, 2, 4, 1, 1)


def split(answered):
    """The flat list of answers as one list a call."""
    parts = []
    at = 0
    while at < len(answered):
        end = at + 1 + answered[at]
        parts.append(answered[at + 1:end])
        at = end
    return parts


class LineTest(unittest.TestCase):
    def ask(self, calls):
        """The answers to these calls, one list a call; checks what holds of every list."""
        before = list(calls)
        answered = answers(calls)
        self.assertEqual(calls, before)
        self.assertIs(type(answered), list)
        for number in answered:
            self.assertIs(type(number), int)
        self.assertEqual(answers(calls), answered)
        return split(answered)

    def line(self, text):
        """Check rows such as 'put 1 1 5 70 -> 0'; what stands behind # is a remark."""
        rows = [row.split("#")[0].strip() for row in text.splitlines()]
        rows = [row for row in rows if row]
        calls, expected = [], []
        for row in rows:
            call, answer = row.split("->")
            words = call.split()
            number = NAMES.index(words[0])
            self.assertEqual(len(words) - 1, NUMBERS_BEHIND[number], row)
            calls.append(number)
            calls.extend(int(word) for word in words[1:])
            expected.append([int(word) for word in answer.split()])
        given = self.ask(calls)
        self.assertEqual(len(given), len(rows))
        for at, row in enumerate(rows):
            self.assertEqual(given[at], expected[at], f"call {at + 1}: {row}")
