"""Choices: the ways in which operators are worked, and physical plans with their expected rows and costs."""

from stylobate.meaning.operators import operators_in, with_inputs, worked_up
from stylobate.optimizer.conditions import condition_parts, conjunction, is_true, together, uses_only
from stylobate.optimizer.estimates import operator_estimate, table_estimate
from stylobate.values.expressions import columns_of, moved, replaced

WAYS = ("hash right", "hash left", "merge", "loop")
_GROUP_WAYS = ("hash", "sort")
_MOST_HALVINGS = 40
_TRUE = ("constant", True)


def halvings(number):
    """Return how many halvings, each rounded up, bring a number to 1; at most 40."""
    many = 0
    while number > 1 and many < _MOST_HALVINGS:
        number = (number + 1) // 2
        many += 1
    return many


def sort_cost(number):
    """Return the cost of sorting so many rows."""
    return number * halvings(number)


def join_cost(way, x, y):
    """Return the cost of a join of x and y rows in a way."""
    if way == "loop":
        return x + x * y
    if way == "hash right":
        return x + 2 * y
    if way == "hash left":
        return 2 * x + y
    return sort_cost(x) + sort_cost(y) + x + y


def group_cost(way, many):
    """Return the cost of the groups, or the different ones, of so many rows in a way."""
    return 2 * many if way == "hash" else sort_cost(many) + many


def _is_left(expression, m):
    return columns_of(expression) != [] and uses_only(expression, 0, m)


def _is_right(expression, m):
    numbers = columns_of(expression)
    return numbers != [] and numbers[0] >= m


def _key_in(part, m):
    """Return the pair of keys that a part of a condition stands for, or None."""
    if part[0] != "binary" or part[1] != "equal":
        return None
    _, _, first, second = part
    if _is_left(first, m) and _is_right(second, m):
        return (first, moved(second, -m))
    if _is_left(second, m) and _is_right(first, m):
        return (second, moved(first, -m))
    return None


def keys_of(condition, m):
    """Return the tuple of the pairs of a left and a right key in the condition of a join, and of its rest.

    The columns of the right side are those from m on.
    """
    pairs = []
    others = []
    for part in condition_parts(condition):
        pair = _key_in(part, m)
        if pair is None:
            others.append(part)
        else:
            pairs.append(pair)
    return (pairs, conjunction(others))


def _join_ways(kind, pairs):
    return WAYS if pairs and kind != "never" else ("loop",)


def cheapest_join(kind, pairs, x, y):
    """Return the cheapest way of a join of x and y rows with these keys, the first of several."""
    return min(_join_ways(kind, pairs), key=lambda way: join_cost(way, x, y))


def cheapest_group(many):
    """Return the cheapest way of the groups, or the different ones, of so many rows, the first of several."""
    return min(_GROUP_WAYS, key=lambda way: group_cost(way, many))


def own_cost(form, way, given, taken):
    """Return the cost of an operator alone.

    `given` is how many rows it has (for a scan: how many the table has), `taken` the list of how many
    rows its inputs have.
    """
    if form in ("table", "scan", "rows"):
        return given
    if form == "join":
        return join_cost(way, taken[0], taken[1]) + given
    if form in ("group", "distinct"):
        return group_cost(way, taken[0])
    if form == "window":
        return sort_cost(taken[0]) + taken[0]
    if form == "top":
        return sort_cost(taken[0])
    return 0 if form == "union" else taken[0]


def _scan_estimate(operator, statistics):
    _, number, condition, columns = operator
    below = table_estimate(number, statistics)
    if not is_true(condition):
        below = operator_estimate(("filter", condition), [below], statistics)
    return operator_estimate(("project", [("column", column) for column in columns]), [below], statistics)


def _physical_estimate(operator, inputs, statistics):
    """Return the estimate of an operator of a physical plan, for those of its inputs."""
    form = operator[0]
    if form == "scan":
        return _scan_estimate(operator, statistics)
    if form == "join":
        _, _, kind, width, left, right, rest, a, b = operator
        m = len(inputs[0].columns)
        keys = [("binary", "equal", one, moved(other, m)) for one, other in zip(left, right)]
        operator = ("join", kind, width, conjunction(keys + [rest]), a, b)
    elif form in ("group", "distinct"):
        operator = (form,) + operator[2:]
    return operator_estimate(operator, inputs, statistics)


class Chosen:
    """A physical plan with the estimate of its first operator."""

    def __init__(self, plan, told):
        self.plan = plan
        self.told = told


def _filter_of(operator, below):
    """Return a filter; over a scan it becomes part of the condition of that."""
    condition = operator[1]
    if below[0] != "scan":
        return ("filter", condition, below)
    _, number, before_it, columns = below
    condition = replaced(condition, [("column", column) for column in columns])
    return ("scan", number, condition if is_true(before_it) else together(before_it, condition), columns)


def _project_of(operator, below):
    """Return a project; over a scan one of columns chooses among those of the scan."""
    expressions = operator[1]
    if below[0] == "scan":
        _, number, condition, columns = below
        if all([part[0] == "column" and part[1] < len(columns) for part in expressions]):
            return ("scan", number, condition, tuple([columns[part[1]] for part in expressions]))
    return ("project", expressions, below)


def _join_of(operator, inputs, choice):
    """Return a join in the way of a choice."""
    _, kind, width, condition, _, _ = operator
    left, right = inputs
    pairs, rest = keys_of(condition, len(left.told.columns))
    ways = _join_ways(kind, pairs)
    way = cheapest_join(kind, pairs, left.told.many, right.told.many)
    if 1 <= choice <= len(ways):
        way = ways[choice - 1]
    if way == "loop":
        pairs, rest = [], condition
    lefts = tuple([one for one, _ in pairs])
    rights = tuple([other for _, other in pairs])
    return ("join", way, kind, width, lefts, rights, rest, left.plan, right.plan)


def _group_way(below, choice):
    """Return the way of a group or of distinct by a choice."""
    if 1 <= choice <= len(_GROUP_WAYS):
        return _GROUP_WAYS[choice - 1]
    return cheapest_group(below.told.many)


def _chosen_operator(operator, inputs, choice, statistics):
    """Return an operator of a plan as one of a physical plan, for what was chosen below it."""
    form = operator[0]
    if form == "table":
        many = len(table_estimate(operator[1], statistics).columns)
        return ("scan", operator[1], _TRUE, tuple(range(many)))
    if form == "filter":
        return _filter_of(operator, inputs[0].plan)
    if form == "project":
        return _project_of(operator, inputs[0].plan)
    if form == "join":
        return _join_of(operator, inputs, choice)
    if form in ("group", "distinct"):
        way = _group_way(inputs[0], choice)
        operator = (form, way) + operator[1:]
    return with_inputs(operator, [below.plan for below in inputs])


def _told(plan, inputs, statistics):
    """Return the estimate of a physical plan, for what was chosen below it."""
    return _physical_estimate(plan, [below.told for below in inputs], statistics)


def _choices_of(plan, choices):
    """Return a choice for each operator (0 where there is none to make), in order."""
    found = []
    waiting = list(choices)
    for operator in operators_in(plan):
        takes = operator[0] in ("join", "group", "distinct") and waiting != []
        found.append(waiting.pop(0) if takes else 0)
    return found


def physical(plan, statistics, choices=()):
    """Return the physical plan of a plan, with the ways by these choices."""
    # The operators are worked from the last one to the first one.
    waiting = _choices_of(plan, choices)

    def work(operator, inputs):
        made = _chosen_operator(operator, inputs, waiting.pop(), statistics)
        return Chosen(made, _told(made, inputs, statistics))

    return worked_up(plan, work).plan


def expectations(plan, statistics):
    """Return the pairs of the expected rows and the expected cost of all operators of a physical plan."""
    found = []

    def work(operator, inputs):
        told = _physical_estimate(operator, [below for below, _ in inputs], statistics)
        form = operator[0]
        given = table_estimate(operator[1], statistics).many if form == "scan" else told.many
        cost = own_cost(form, operator[1], given, [below.many for below, _ in inputs])
        cost += sum([costs for _, costs in inputs])
        found.append((told.many, cost))
        return told, cost

    worked_up(plan, work)
    return found[::-1]


def expected(plan, statistics):
    """Return the pair of the expected rows and the expected cost of a physical plan."""
    return expectations(plan, statistics)[0]
