"""The rows of one table, in buckets or in order, and how they are tidied."""

FEWEST_BUCKETS = 2


def bucket_number(key, size):
    """The bucket that a key is in when there are so many; of one bucket it's always that."""
    power = 1
    while power * 2 <= size:
        power = power * 2
    number = key % (2 * power)
    return number if number < size else key % power


def fitter_number(rows, size):
    """The number of buckets a step nearer to what so many rows need; the same if it fits."""
    if rows > 2 * size:
        return size + 1
    if size > FEWEST_BUCKETS and 2 * rows < size:
        return size - 1
    return size


class Row:
    """A key and its value. One that was taken out and stays in its place isn't there."""

    def __init__(self, key, value):
        self.key = key
        self.value = value
        self.there = True


class Table:
    """Rows in buckets; a table in order is one bucket whose rows stand by key."""

    def __init__(self, owner, in_order, access, heir):
        self.owner = owner
        self.in_order = in_order
        self.access = access
        self.heir = heir
        self.buckets = [[]] if in_order else [[], []]
        # How many times each process holds it; who doesn't is not among the keys.
        self.holders = {}

    def all_rows(self):
        """Every row, in the order in which they stand, also those that were taken out and stay."""
        rows = []
        for bucket in self.buckets:
            rows.extend(bucket)
        return rows

    def rows_there(self):
        """The rows that are there, in a walk's order."""
        return [row for row in self.all_rows() if row.there]

    def row_placed(self, key):
        """The row with this key, there or taken out and still in its place; else None."""
        for row in self.buckets[bucket_number(key, len(self.buckets))]:
            if row.key == key:
                return row
        return None

    def row_there(self, key):
        """The row with this key if it's there, else None."""
        row = self.row_placed(key)
        return row if row is not None and row.there else None

    def put_in(self, key, value):
        """Put a row in: in the place of the one with its key, if there is one."""
        row = self.row_placed(key)
        if row is None:
            self.place(Row(key, value))
        else:
            row.value = value
            row.there = True
        self.tidy()

    def place(self, row):
        """Give a row with a new key its place: last in its bucket, or by key."""
        bucket = self.buckets[bucket_number(row.key, len(self.buckets))]
        if self.in_order:
            bucket.insert(len([other for other in bucket if other.key < row.key]), row)
        else:
            bucket.append(row)

    def take_out(self, row):
        """Take out a row that's there; while somebody holds the table it keeps its place."""
        row.there = False
        self.tidy()

    def knows_next(self, key):
        """Whether one knows the next row behind this key: in buckets its own row tells the place."""
        return self.in_order or self.row_placed(key) is not None

    def rows_behind(self, key):
        """The rows that are there behind a key whose next one is known, in a walk's order."""
        if self.in_order:
            return [row for row in self.rows_there() if row.key > key]
        rows = self.all_rows()
        place = [row.key for row in rows].index(key)
        return [row for row in rows[place + 1:] if row.there]

    def rows_valued(self, least, most):
        """The rows that are there with a value from least to most, by key."""
        rows = [row for row in self.rows_there() if least <= row.value <= most]
        return sorted(rows, key=lambda row: row.key)

    def times_held(self):
        """How many times it's held, by all processes together."""
        return sum(self.holders.values())

    def hold(self, process):
        """This process holds the table once more."""
        self.holders[process] = self.holders.get(process, 0) + 1

    def let_go(self, process):
        """A process that holds the table holds it once less."""
        if self.holders[process] > 1:
            self.holders[process] -= 1
        else:
            self.end_holder(process)

    def end_holder(self, process):
        """This process holds the table no more, however many times it did."""
        if process in self.holders:
            self.holders.pop(process)
            self.tidy()

    def tidy(self):
        """Unless somebody holds it: clear away what was taken out, then fit the buckets."""
        if len(self.holders) > 0:
            return
        cleared = []
        for bucket in self.buckets:
            cleared.append([row for row in bucket if row.there])
        self.buckets = cleared
        if not self.in_order:
            self.fit_buckets()

    def fit_buckets(self):
        """One bucket more or less, again and again, till their number fits the rows."""
        rows = len(self.all_rows())
        wanted = fitter_number(rows, len(self.buckets))
        # Each step deals anew: where rows stand in the end depends on the steps between.
        while wanted != len(self.buckets):
            self.deal(wanted)
            wanted = fitter_number(rows, wanted)

    def deal(self, size):
        """Deal all rows anew into so many buckets, in the order in which they are."""
        dealt = [[] for number in range(size)]
        for row in self.all_rows():
            dealt[bucket_number(row.key, size)].append(row)
        self.buckets = dealt
