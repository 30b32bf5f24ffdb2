"""Plans and tables by chance, small enough that their rows are quickly told."""

from stylobate.storage.tables import Column, Table
from stylobate.values.order import row_rank

WIDTHS = [2, 3, 1]
VALUES = [None, None, True, False, -1, 0, 1, 1, 2, 3, "", "a", "a", "b", "ab"]
KINDS = ("inner", "left", "some", "none", "never")
AGGREGATES = ("count", "distinct", "sum", "min", "max", "average", "average decimal", "every", "some", "list")
COMPARISONS = ("equal", "equal", "less", "at most", "same")


def bag(rows):
    """The rows as a list that is the same for equal bags."""
    return sorted([row_rank(row) for row in rows])


class Plans:
    """Makes plans over tables with the widths above; each one is valid."""

    def __init__(self, chance):
        self.chance = chance

    def value(self):
        return self.chance.choice(VALUES)

    def tables(self, most=6):
        many = [self.chance.randrange(most + 1) for _ in WIDTHS]
        return [[[self.value() for _ in range(width)] for _ in range(rows)] for width, rows in zip(WIDTHS, many)]

    def column(self, width):
        return ("column", self.chance.randrange(width)) if width > 0 else ("constant", self.value())

    def expression(self, width, depth=2):
        chance = self.chance
        shape = chance.randrange(9) if depth > 0 else chance.randrange(3)
        if shape < 2:
            return self.column(width)
        if shape == 2:
            return ("constant", self.value())
        if shape == 3:
            name = chance.choice(["not", "negate", "is null", "length", "upper"])
            return ("unary", name, self.expression(width, depth - 1))
        if shape == 4:
            return ("choice", self.condition(width, depth - 1), self.expression(width, depth - 1),
                    self.expression(width, depth - 1))
        if shape == 5:
            return ("ternary", "part") + tuple([self.expression(width, depth - 1) for _ in range(3)])
        name = chance.choice(["add", "multiply", "coalesce", "join", "least", "subtract", "like", "position"])
        return ("binary", name, self.expression(width, depth - 1), self.expression(width, depth - 1))

    def condition(self, width, depth=2):
        chance = self.chance
        shape = chance.randrange(10) if depth > 0 else chance.randrange(4)
        if shape == 0:
            return ("constant", chance.choice([True, True, False, None]))
        if shape == 1:
            return ("unary", "not", ("unary", "is null", self.column(width)))
        if shape < 4:
            sides = [self.column(width), chance.choice([self.column(width), ("constant", self.value())])]
            chance.shuffle(sides)
            return ("binary", chance.choice(COMPARISONS), sides[0], sides[1])
        if shape == 4:
            return ("unary", "not", self.condition(width, depth - 1))
        if shape == 5:
            return self.expression(width, depth - 1)
        name = chance.choice(["and", "and", "and", "or"])
        return ("binary", name, self.condition(width, depth - 1), self.condition(width, depth - 1))

    def join_condition(self, m, width):
        chance = self.chance
        if m > 0 and width > 0 and chance.random() < 0.7:
            sides = [("column", chance.randrange(m)), ("column", m + chance.randrange(width))]
            chance.shuffle(sides)
            equal = ("binary", "equal", sides[0], sides[1])
            return equal if chance.random() < 0.4 else ("binary", "and", equal, self.condition(m + width, 1))
        return self.condition(m + width)

    def keys(self, width, most=2):
        chance = self.chance
        return tuple([(self.expression(width, 1), chance.random() < 0.5) for _ in range(chance.randrange(most + 1))])

    def expressions(self, width, most, depth=1):
        chance = self.chance
        return tuple([self.column(width) if chance.random() < 0.6 else self.expression(width, depth)
                      for _ in range(chance.randrange(most + 1))])

    def values(self, width):
        chance = self.chance
        values = []
        for _ in range(chance.randrange(3)):
            if chance.random() < 0.2:
                values.append(("rows", None))
            else:
                values.append((chance.choice(AGGREGATES), self.expression(width, 1)))
        return tuple(values)

    def function(self, width):
        chance = self.chance
        name = chance.choice(["number", "rank", "dense", "tile", "sum", "count", "min", "first", "last", "before"])
        if name in ("number", "rank", "dense"):
            return (name, None, None, None)
        if name == "tile":
            return (name, None, None, chance.randrange(4))
        if name == "before":
            return (name, self.column(width), None, chance.randrange(3))
        frame = chance.choice([None, (0, 0), (1, 0), (1, 2)])
        return (name, self.column(width), frame, None)

    def leaf(self):
        chance = self.chance
        if chance.random() < 0.85:
            number = chance.randrange(len(WIDTHS))
            return ("table", number), WIDTHS[number]
        width = chance.randrange(1, 3)
        rows = tuple([tuple([self.value() for _ in range(width)]) for _ in range(chance.randrange(3))])
        return ("rows", width, rows), width

    def join(self, depth):
        left, m = self.plan(depth - 1)
        right, width = self.plan(depth - 1)
        kind = self.chance.choice(KINDS + ("inner", "inner"))
        plan = ("join", kind, width, self.join_condition(m, width), left, right)
        return plan, m + width if kind in ("inner", "left") else m

    def union(self, depth):
        left, m = self.plan(depth - 1)
        right, width = self.plan(depth - 1)
        if m != width:
            right = ("project", tuple([self.column(width) for _ in range(m)]), right)
        return ("union", left, right), m

    def plan(self, depth):
        """Return a plan and its width."""
        chance = self.chance
        if depth <= 0:
            return self.leaf()
        form = chance.choice(["leaf", "filter", "filter", "project", "project", "join", "join", "join", "group",
                              "distinct", "union", "window", "top"])
        if form == "leaf":
            return self.leaf()
        if form == "join":
            return self.join(depth)
        if form == "union":
            return self.union(depth)
        below, width = self.plan(depth - 1)
        if form == "filter":
            return ("filter", self.condition(width), below), width
        if form == "project":
            expressions = self.expressions(width, 3)
            return ("project", expressions, below), len(expressions)
        if form == "group":
            keys, values = self.expressions(width, 2), self.values(width)
            return ("group", keys, values, below), len(keys) + len(values)
        if form == "distinct":
            return ("distinct", below), width
        if form == "window":
            functions = tuple([self.function(width) for _ in range(chance.randrange(1, 3))])
            return ("window", self.expressions(width, 2), self.keys(width), functions, below), width + len(functions)
        return ("top", self.keys(width), chance.randrange(3), chance.choice([None, 0, 1, 2, 5]), below), width


def stored(tables, size, widths=WIDTHS):
    """The tables of lists of rows, with groups of this size; the kinds of the columns are not looked at."""
    found = []
    for width, rows in zip(widths, tables):
        table = Table([Column(f"c{number}", "int", True) for number in range(width)], size)
        table.insert(rows)
        found.append(table)
    return found
