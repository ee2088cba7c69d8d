"""Lists of 80 calls that mix all seventeen, answered as by a plain model of the document."""

import random
import unittest

from tests.helper import GREATEST, NUMBERS_BEHIND, LineTest

NEEDED = {3: 3, 4: 3, 5: 2, 6: 2, 7: 2, 8: 1, 9: 2, 10: 1, 11: 1, 12: 1, 13: 1, 14: 1}


class ModelTable:
    """Rows as one flat list [key, value, there] in a walk's order; holds as a list of processes."""

    def __init__(self, owner, sort, access, heir):
        self.owner, self.sort, self.access, self.heir = owner, sort, access, heir
        self.rows, self.size, self.holds = [], 2 - sort, []

    def place(self, row):
        """What rows are sorted by; Python's sort keeps the order of rows that are alike."""
        if self.sort == 1:
            return row[0]
        half = 1 << (self.size.bit_length() - 1)
        number = row[0] & (2 * half - 1)
        return number if number < self.size else number - half

    def there(self):
        return [row for row in self.rows if row[2]]

    def find(self, key):
        found = [row for row in self.there() if row[0] == key]
        return found[0] if found else None

    def put(self, key, value):
        for row in self.rows:
            if row[0] == key:
                row[1:] = [value, True]
                break
        else:
            self.rows.append([key, value, True])
            self.rows.sort(key=self.place)
        self.tidy()

    def tidy(self):
        if self.holds:
            return
        self.rows = self.there()
        while self.sort == 0:
            if len(self.rows) > 2 * self.size:
                self.size += 1
            elif self.size > 2 and len(self.rows) < self.size / 2:
                self.size -= 1
            else:
                break
            self.rows.sort(key=self.place)

    def behind(self, key):
        if self.sort == 1:
            return [row for row in self.there() if row[0] > key]
        keys = [row[0] for row in self.rows]
        if key not in keys:
            return None
        return [row for row in self.rows[keys.index(key) + 1:] if row[2]]


class Model:
    def __init__(self):
        self.alive = [False]
        self.tables = [None]

    def lives(self, p):
        return p < len(self.alive) and self.alive[p]

    def table(self, t):
        return self.tables[t] if t < len(self.tables) else None

    def call(self, number, numbers):
        if number == 0:
            return self.start()
        if number in (15, 16):
            return self.told(number, self.table(numbers[0]))
        p = numbers[0]
        if not self.lives(p):
            return [-1]
        if number == 1:
            return self.ends(p)
        if number == 2:
            return self.new(p, *numbers[1:])
        table = self.table(numbers[1])
        if table is None:
            return [-3]
        if table.owner != p and table.access < NEEDED[number]:
            return [-4]
        uses = (self.drop, self.give, self.put, self.only, self.out, self.get,
                self.bump, self.first, self.behind, self.hold, self.letgo, self.which)
        return uses[number - 3](p, table, *numbers[2:])

    def start(self):
        if len(self.alive) == 9:
            return [-6]
        self.alive.append(True)
        return [len(self.alive) - 1]

    def ends(self, p):
        self.alive[p] = False
        for t, table in enumerate(self.tables):
            if table is None:
                continue
            table.holds = [holder for holder in table.holds if holder != p]
            table.tidy()
            if table.owner == p and self.lives(table.heir):
                table.owner, table.heir = table.heir, 0
            elif table.owner == p:
                self.tables[t] = None
        return [len([table for table in self.tables if table is not None])]

    def new(self, p, sort, access, heir):
        if sort not in (0, 1) or access not in (0, 1, 2) or heir == p or not (heir == 0 or self.lives(heir)):
            return [-2]
        if len(self.tables) == 7:
            return [-6]
        self.tables.append(ModelTable(p, sort, access, heir))
        return [len(self.tables) - 1]

    def told(self, number, table):
        if table is None:
            return [-3]
        keys = [row[0] for row in table.there()]
        if number == 16:
            return [len(keys)] + keys
        return [table.sort, table.owner, table.heir, table.access, len(keys), table.size, len(table.holds)]

    def drop(self, p, table):
        self.tables[self.tables.index(table)] = None
        return [len(table.there())]

    def give(self, p, table, q):
        if not self.lives(q):
            return [-2]
        table.owner, table.heir = q, (0 if table.heir == q else table.heir)
        return [0]

    def put(self, p, table, k, v):
        if k > 999 or v > 1000000:
            return [-2]
        was = table.find(k)
        if was is None and len(table.rows) == 100:
            return [-6]
        table.put(k, v)
        return [0 if was is None else 1]

    def only(self, p, table, k, v):
        if k <= 999 and v <= 1000000 and table.find(k) is not None:
            return [0]
        answer = self.put(p, table, k, v)
        return [1] if answer == [0] else answer

    def out(self, p, table, k):
        row = table.find(k)
        if row is None:
            return [0]
        row[2] = False
        table.tidy()
        return [1]

    def get(self, p, table, k):
        row = table.find(k)
        return [0] if row is None else [1, row[1]]

    def bump(self, p, table, k, d):
        row = table.find(k)
        if row is None or d > 1000000:
            return [-5 if row is None else -2]
        row[1] = row[1] + d if row[1] + d <= 1000000 else row[1] + d - 1000001
        return [row[1]]

    def first(self, p, table):
        return [1, table.there()[0][0]] if table.there() else [0]

    def behind(self, p, table, k):
        found = table.behind(k)
        if found is None:
            return [-5]
        return [1, found[0][0]] if found else [0]

    def hold(self, p, table):
        if len(table.holds) == 20:
            return [-6]
        table.holds.append(p)
        return [len(table.holds)]

    def letgo(self, p, table):
        if p not in table.holds:
            return [-5]
        table.holds.remove(p)
        table.tidy()
        return [len(table.holds)]

    def which(self, p, table, least, most):
        found = sorted(row[:2] for row in table.there() if row[1] >= least and row[1] <= most)
        return [len(found)] + [number for row in found for number in row]


# Of each call: the greatest number that's usual in each of its places.
USUAL = (
    (), (4,), (4, 1, 2, 4), (4, 4), (4, 4, 5), (4, 4, 30, 9), (4, 4, 30, 9), (4, 4, 30), (4, 4, 30),
    (4, 4, 30, 9), (4, 4), (4, 4, 30), (4, 4), (4, 4), (4, 4, 9, 9), (4,), (4,),
)
# How often each call comes: all alike, much put in, much taken out, much held.
WEIGHTS = (
    (3, 1, 4, 1, 3, 20, 8, 12, 6, 6, 4, 10, 6, 6, 5, 8, 8),
    (1, 0, 1, 0, 1, 60, 20, 6, 2, 2, 2, 8, 3, 3, 2, 6, 6),
    (1, 0, 1, 0, 1, 30, 10, 40, 2, 2, 2, 8, 4, 4, 2, 8, 8),
    (1, 2, 1, 0, 1, 10, 2, 6, 2, 2, 2, 6, 50, 20, 2, 6, 6),
)


class ModelTest(LineTest):
    def some_number(self, chance, usual):
        if chance.random() < 0.02:
            return chance.choice((0, 20, 21, GREATEST, 999, 1000, 1000000, 1000001))
        return chance.randint(0, usual)

    def some_calls(self, chance):
        """A list of 80 calls, most of them about few processes, tables and keys."""
        weights = chance.choice(WEIGHTS)
        processes, tables, keys = chance.choice(((4, 4, 30), (2, 1, 60), (2, 2, 12), (3, 2, 999)))
        calls = [[0], [0], [2, 1, 0, 2, 2], [2, 2, 1, chance.randint(0, 2), 0]]
        while len(calls) < 80:
            number = chance.choices(range(17), weights)[0]
            call = [number] + [self.some_number(chance, usual) for usual in USUAL[number]]
            # Most are asked of those that there are, so that not all is refused.
            if number in NEEDED and chance.random() < 0.9:
                call[1:3] = [chance.randint(1, processes), chance.randint(1, tables)]
            if number in (5, 6, 7, 8, 9, 11) and chance.random() < 0.95:
                call[3] = chance.randint(0, keys)
            if number == 9 and chance.random() < 0.3:
                call[4] = chance.choice((1, 999999, 1000000, 1000001))
            if number in (15, 16) and chance.random() < 0.9:
                call[1] = chance.randint(1, tables)
            calls.append(call)
        return calls

    def check(self, calls):
        model = Model()
        expected = [model.call(call[0], call[1:]) for call in calls]
        given = self.ask([number for call in calls for number in call])
        self.assertEqual(len(given), len(calls))
        for at, call in enumerate(calls):
            self.assertEqual(given[at], expected[at], (at, call, calls))
        return expected

    def test_many_lists_are_answered_as_by_the_model(self):
        chance = random.Random(20261118)
        seen = set()
        for times in range(1000):
            calls = self.some_calls(chance)
            self.assertEqual([len(call) - 1 for call in calls], [NUMBERS_BEHIND[call[0]] for call in calls])
            for call, answer in zip(calls, self.check(calls)):
                seen.add((call[0], min(answer[0], 0)))
        refusals = {
            0: (-6,), 1: (-1,), 2: (-1, -2, -6), 3: (-1, -3, -4), 4: (-1, -2, -3, -4), 5: (-1, -2, -3, -4),
            6: (-1, -2, -3, -4), 7: (-1, -3, -4), 8: (-1, -3, -4), 9: (-1, -2, -3, -4, -5), 10: (-1, -3, -4),
            11: (-1, -3, -4, -5), 12: (-1, -3, -4, -6), 13: (-1, -3, -4, -5), 14: (-1, -3, -4), 15: (-3,), 16: (-3,),
        }
        wanted = {(number, answer) for number in range(17) for answer in refusals[number] + (0,)}
        self.assertEqual(sorted(seen ^ wanted), [])

    def test_long_holds_are_tidied_as_by_the_model(self):
        chance = random.Random(7)
        for times in range(200):
            calls = [[0], [2, 1, times % 2, 0, 0]]
            calls += [[5, 1, 1, key, key] for key in chance.sample(range(64), chance.randint(0, 36))]
            calls += [[12, 1, 1]]
            while len(calls) < 76:
                key = chance.randrange(64)
                calls.append([7, 1, 1, key] if times % 4 < 2 and chance.random() < 0.95 else [5, 1, 1, key, 0])
            self.check(calls + [[16, 1], [13, 1, 1], [15, 1], [16, 1]])


if __name__ == "__main__":
    unittest.main()
