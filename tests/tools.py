"""What several test files need: plans, a second way to judge runs, and checks that nothing is shared."""

import copy

from paidinparts.plans import Plan

SHOP_COLUMNS = ["held", "taken"]
SHOP_KINDS = [
    ("hold", [{}, {"held": 1}], [("hold", 0, 1)]),
    ("take", [{}, {"taken": 1}, {"taken": 2}], [("take", 0, 1), ("again", 1, 2)]),
]
SHOP_CHECKS = [{"held": 1, "taken": -1}]


def shop_parts():
    """The three arguments of the document's plan, new each time."""
    return copy.deepcopy((SHOP_COLUMNS, SHOP_KINDS, SHOP_CHECKS))


def shop():
    """The document's plan."""
    return Plan(*shop_parts())


def one_each(names):
    """Kinds that each raise one column of the same name by 1."""
    return [(name, [{}, {name: 1}], [("go", 0, 1)]) for name in names]


def ladder_parts(many, up=1, down=-1):
    """The arguments of a plan in which each check is lifted only with what the next kind brought; the last has it free.

    The columns are checked, and each kind raises one column; all but the last kind lower the next column.
    """
    columns = ["a", "b", "c", "d", "e", "f"][:many]
    rows = [{column: up} for column in columns]
    for row, following in zip(rows, columns[1:]):
        row[following] = down
    kinds = [("kind" + column, [{}, row], [("go", 0, 1)]) for column, row in zip(columns, rows)]
    return columns, kinds, [{column: 1} for column in columns]


def raised(call, *args, **more):
    """The class and the value of the error that a call raises, or None."""
    try:
        call(*args, **more)
    except ValueError as error:
        return (error.__class__.__name__, error.value)
    return None


def containers(found):
    """All lists and dicts in a value, with those inside of others and of tuples."""
    if isinstance(found, dict):
        return [found] + [row for item in found.values() for row in containers(item)]
    if isinstance(found, (list, tuple)):
        inner = [row for item in found for row in containers(item)]
        return [found] + inner if isinstance(found, list) else inner
    return []


def all_apart(*found):
    """True if no list or dict stands in two places of these values."""
    marks = [id(row) for row in containers(list(found))]
    return len(marks) == len(set(marks))


def parts_after(kinds, deeds):
    """The parts [kind, amount, state] after deeds, or None where a part, a kind, an amount or a step is not there."""
    parts = []
    for deed in deeds:
        if deed[0] == "new":
            if deed[1] not in [kind[0] for kind in kinds] or deed[2] <= 0:
                return None
            parts.append([deed[1], deed[2], 0])
        else:
            if deed[1] not in range(len(parts)):
                return None
            part = parts[deed[1]]
            ends = [
                target
                for kind, _, steps in kinds
                for name, source, target in steps
                if (kind, name, source) == (part[0], deed[2], part[2])
            ]
            if not ends:
                return None
            part[2] = ends[0]
    return parts


def totals_at(columns, kinds, parts):
    """The totals of all columns, from the parts alone."""
    states = {kind: counts for kind, counts, _ in kinds}
    return [sum(amount * states[kind][state].get(column, 0) for kind, amount, state in parts) for column in columns]


def value_at_totals(columns, reached, total):
    """The value of a sum where the columns have these totals."""
    return sum(total.get(column, 0) * worth for column, worth in zip(columns, reached))


def first_wrong(columns, kinds, checks, deeds):
    """The least index up to which the deeds are no run, or None, from the words of the document, each time anew."""
    for index in range(len(deeds)):
        parts = parts_after(kinds, deeds[: index + 1])
        if parts is None:
            return index
        reached = totals_at(columns, kinds, parts)
        if deeds[index][0] == "step" and any(value_at_totals(columns, reached, check) < 0 for check in checks):
            return index
    return None


def random_table(random, columns, low, high):
    """A dict from some of the columns to numbers."""
    some = [column for column in columns if random.random() < 0.7]
    random.shuffle(some)
    return {column: random.randint(low, high) for column in some}


def random_steps(random, size):
    """Steps of a kind with this many states."""
    places = [(name, source) for name in ["go", "back", "hear"] for source in range(size)]
    random.shuffle(places)
    many = random.randint(0, min(6, len(places)))
    return [(name, source, random.randrange(size)) for name, source in places[:many]]


def random_parts(random, most_kinds=3):
    """The three arguments of some plan."""
    columns = ["held", "taken", "given", "a"][: random.randint(0, 4)]
    kinds = []
    for name in ["hold", "take", "a"][: random.randint(0, most_kinds)]:
        size = random.randint(1, 4)
        states = [{}] + [random_table(random, columns, -3, 3) for _ in range(size - 1)]
        kinds.append((name, states, random_steps(random, size)))
    checks = [random_table(random, columns, -2, 3) for _ in range(random.randint(0, 2))]
    return columns, kinds, checks


def random_deed(random, many):
    """Some deed, where about this many parts are there; often a wrong one."""
    if random.random() < 0.35:
        return ("new", random.choice(["hold", "take", "a", "hold", "take", "a", "no"]), random.randint(-1, 12))
    return ("step", random.randint(-1, many), random.choice(["go", "back", "hear"]))
