"""Tables of keys and values that several processes use: answers(calls) is the way in."""

from heldtables.rows import Table

NO_REFUSAL = 0
NOT_LIVING = -1
WRONG_NUMBER = -2
NO_TABLE = -3
NOT_ALLOWED = -4
NOT_THERE = -5
TOO_MANY = -6

MOST_PROCESSES = 8
MOST_TABLES = 6
MOST_ROWS = 100
MOST_HOLDS = 20
GREATEST_KEY = 999
GREATEST_VALUE = 1000000

IN_BUCKETS = 0
IN_ORDER = 1
NOBODY = 0

# The least access at which one who isn't the owner may do it. No table has the
# last of them, so that what asks for it is left to the owner.
READING = 1
WRITING = 2
OWNING = 3

# How many numbers each call has behind its own, by the calls' numbers.
NUMBERS_BEHIND = (0, 1, 4, 2, 3, 4, 4, 3, 3, 4, 2, 3, 2, 2, 4, 1, 1)


class World:
    """The processes and tables of one list of calls."""

    def __init__(self):
        self.started = 0
        self.living = {}
        self.made = 0
        self.tables = {}


def refusal_of_new(world, p, sort, access, heir):
    """Why p can't make such a table, or NO_REFUSAL."""
    if p not in world.living:
        return NOT_LIVING
    if sort > IN_ORDER or access > WRITING or heir == p:
        return WRONG_NUMBER
    if heir != NOBODY and heir not in world.living:
        return WRONG_NUMBER
    if world.made >= MOST_TABLES:
        return TOO_MANY
    return NO_REFUSAL


def refusal_of_access(world, p, t, needed):
    """Why p can't use table t in the way that needs this access, or NO_REFUSAL."""
    if p not in world.living:
        return NOT_LIVING
    if t not in world.tables:
        return NO_TABLE
    table = world.tables[t]
    if table.owner != p and table.access < needed:
        return NOT_ALLOWED
    return NO_REFUSAL


def refusal_of_row(world, p, t, k, v):
    """Why p can't put this row into table t, or NO_REFUSAL."""
    refusal = refusal_of_access(world, p, t, WRITING)
    if refusal != NO_REFUSAL:
        return refusal
    if k > GREATEST_KEY or v > GREATEST_VALUE:
        return WRONG_NUMBER
    table = world.tables[t]
    if table.row_there(k) is None and len(table.all_rows()) >= MOST_ROWS:
        return TOO_MANY
    return NO_REFUSAL


def answer_start(world):
    if world.started >= MOST_PROCESSES:
        return [TOO_MANY]
    world.started += 1
    world.living[world.started] = True
    return [world.started]


def answer_ends(world, p):
    if p not in world.living:
        return [NOT_LIVING]
    world.living.pop(p)
    for t in list(world.tables):
        world.tables[t].end_holder(p)
        if world.tables[t].owner == p:
            leave_to_heir(world, t)
    return [len(world.tables)]


def leave_to_heir(world, t):
    """The owner of table t has ended: it's the heir's, or gone if no heir lives."""
    table = world.tables[t]
    if table.heir in world.living:
        table.owner = table.heir
        table.heir = NOBODY
    else:
        world.tables.pop(t)


def answer_new(world, p, sort, access, heir):
    refusal = refusal_of_new(world, p, sort, access, heir)
    if refusal != NO_REFUSAL:
        return [refusal]
    world.made += 1
    world.tables[world.made] = Table(p, sort == IN_ORDER, access, heir)
    return [world.made]


def answer_drop(world, p, t):
    refusal = refusal_of_access(world, p, t, OWNING)
    if refusal != NO_REFUSAL:
        return [refusal]
    table = world.tables.pop(t)
    return [len(table.rows_there())]


def answer_give(world, p, t, q):
    refusal = refusal_of_access(world, p, t, OWNING)
    if refusal != NO_REFUSAL:
        return [refusal]
    if q not in world.living:
        return [WRONG_NUMBER]
    table = world.tables[t]
    table.owner = q
    if table.heir == q:
        table.heir = NOBODY
    return [0]


def answer_put(world, p, t, k, v):
    refusal = refusal_of_row(world, p, t, k, v)
    if refusal != NO_REFUSAL:
        return [refusal]
    table = world.tables[t]
    was_there = 0 if table.row_there(k) is None else 1
    table.put_in(k, v)
    return [was_there]


def answer_only(world, p, t, k, v):
    refusal = refusal_of_row(world, p, t, k, v)
    if refusal != NO_REFUSAL:
        return [refusal]
    table = world.tables[t]
    if table.row_there(k) is not None:
        return [0]
    table.put_in(k, v)
    return [1]


def answer_out(world, p, t, k):
    refusal = refusal_of_access(world, p, t, WRITING)
    if refusal != NO_REFUSAL:
        return [refusal]
    table = world.tables[t]
    row = table.row_there(k)
    if row is None:
        return [0]
    table.take_out(row)
    return [1]


def answer_get(world, p, t, k):
    refusal = refusal_of_access(world, p, t, READING)
    if refusal != NO_REFUSAL:
        return [refusal]
    row = world.tables[t].row_there(k)
    return [0] if row is None else [1, row.value]


def answer_bump(world, p, t, k, d):
    refusal = refusal_of_access(world, p, t, WRITING)
    if refusal != NO_REFUSAL:
        return [refusal]
    row = world.tables[t].row_there(k)
    if row is None:
        return [NOT_THERE]
    if d > GREATEST_VALUE:
        return [WRONG_NUMBER]
    row.value = (row.value + d) % (GREATEST_VALUE + 1)
    return [row.value]


def first_key(rows):
    """1 and the key of the first of these rows, or 0 if there are none."""
    return [1, rows[0].key] if len(rows) > 0 else [0]


def answer_first(world, p, t):
    refusal = refusal_of_access(world, p, t, READING)
    if refusal != NO_REFUSAL:
        return [refusal]
    return first_key(world.tables[t].rows_there())


def answer_next(world, p, t, k):
    refusal = refusal_of_access(world, p, t, READING)
    if refusal != NO_REFUSAL:
        return [refusal]
    table = world.tables[t]
    if not table.knows_next(k):
        return [NOT_THERE]
    return first_key(table.rows_behind(k))


def answer_hold(world, p, t):
    refusal = refusal_of_access(world, p, t, READING)
    if refusal != NO_REFUSAL:
        return [refusal]
    table = world.tables[t]
    if table.times_held() >= MOST_HOLDS:
        return [TOO_MANY]
    table.hold(p)
    return [table.times_held()]


def answer_letgo(world, p, t):
    refusal = refusal_of_access(world, p, t, READING)
    if refusal != NO_REFUSAL:
        return [refusal]
    table = world.tables[t]
    if p not in table.holders:
        return [NOT_THERE]
    table.let_go(p)
    return [table.times_held()]


def answer_which(world, p, t, least, most):
    refusal = refusal_of_access(world, p, t, READING)
    if refusal != NO_REFUSAL:
        return [refusal]
    rows = world.tables[t].rows_valued(least, most)
    answer = [len(rows)]
    for row in rows:
        answer.extend([row.key, row.value])
    return answer


def answer_table(world, t):
    if t not in world.tables:
        return [NO_TABLE]
    table = world.tables[t]
    sort = IN_ORDER if table.in_order else IN_BUCKETS
    sizes = [len(table.rows_there()), len(table.buckets), table.times_held()]
    return [sort, table.owner, table.heir, table.access] + sizes


def answer_order(world, t):
    if t not in world.tables:
        return [NO_TABLE]
    keys = [row.key for row in world.tables[t].rows_there()]
    return [len(keys)] + keys


def answer_call(world, number, behind):
    """What the call with this number answers, given the numbers behind it."""
    if number == 0:
        return answer_start(world)
    if number == 1:
        return answer_ends(world, behind[0])
    if number == 2:
        return answer_new(world, behind[0], behind[1], behind[2], behind[3])
    if number == 3:
        return answer_drop(world, behind[0], behind[1])
    if number == 4:
        return answer_give(world, behind[0], behind[1], behind[2])
    if number == 5:
        return answer_put(world, behind[0], behind[1], behind[2], behind[3])
    if number == 6:
        return answer_only(world, behind[0], behind[1], behind[2], behind[3])
    if number == 7:
        return answer_out(world, behind[0], behind[1], behind[2])
    if number == 8:
        return answer_get(world, behind[0], behind[1], behind[2])
    return answer_later_call(world, number, behind)


def answer_later_call(world, number, behind):
    """Likewise, for the calls from bump on."""
    if number == 9:
        return answer_bump(world, behind[0], behind[1], behind[2], behind[3])
    if number == 10:
        return answer_first(world, behind[0], behind[1])
    if number == 11:
        return answer_next(world, behind[0], behind[1], behind[2])
    if number == 12:
        return answer_hold(world, behind[0], behind[1])
    if number == 13:
        return answer_letgo(world, behind[0], behind[1])
    if number == 14:
        return answer_which(world, behind[0], behind[1], behind[2], behind[3])
    if number == 15:
        return answer_table(world, behind[0])
    return answer_order(world, behind[0])


def answers(calls):
    """For each call of the list, in order: how many numbers it answers, then these."""
    world = World()
    answered = []
    at = 0
    while at < len(calls):
        end = at + 1 + NUMBERS_BEHIND[calls[at]]
        answer = answer_call(world, calls[at], calls[at + 1:end])
        answered.append(len(answer))
        answered.extend(answer)
        at = end
    return answered
