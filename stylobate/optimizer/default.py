"""The default: which moves are made where none are given."""

from stylobate.meaning.operators import worked_up
from stylobate.optimizer.choices import cheapest_group, cheapest_join, keys_of, own_cost
from stylobate.optimizer.estimates import operator_estimate
from stylobate.optimizer.moves import moved_plan, places

_FIRST = (
    "fold", "drop filter", "merge filters", "left join to inner", "filter below project",
    "filter below union", "filter below distinct", "filter below group", "filter below window",
    "filter into join", "condition to sides", "distinct twice", "distinct union", "distinct join",
    "distinct below group", "drop top", "top below union", "merge projects",
)
_BEHIND_A_MOVE = ("merge filters", "condition to sides", "project above join", "merge projects", "drop project")
_LAST = (
    "merge projects", "drop left join", "prune group", "prune window", "prune join", "project below union",
    "drop project",
)
_MOST_ORDERS = 12


def _cheapest_way(operator, inputs):
    """Return the cheapest way of an operator, for the estimates of its inputs; None if it has no ways."""
    form = operator[0]
    if form == "join":
        _, kind, _, condition, _, _ = operator
        pairs, _ = keys_of(condition, len(inputs[0].columns))
        return cheapest_join(kind, pairs, inputs[0].many, inputs[1].many)
    return cheapest_group(inputs[0].many) if form in ("group", "distinct") else None


def plan_cost(plan, statistics):
    """Return the cost of a plan, which decides the order of joins."""
    def work(operator, inputs):
        below = [known for known, _ in inputs]
        told = operator_estimate(operator, below, statistics)
        way = _cheapest_way(operator, below)
        cost = own_cost(operator[0], way, told.many, [one.many for one in below])
        return told, cost + sum([costs for _, costs in inputs])

    return worked_up(plan, work)[1]


def widths_of(statistics):
    """Return the list of the numbers of columns of the tables."""
    return [len(table.columns) for table in statistics]


def _first_use(rules, plan, widths):
    """Return the first rule that applies anywhere, and the plan behind it; None and None if there is none."""
    for rule in rules:
        changed = moved_plan((rule, 0), plan, widths)
        if changed is not None:
            return rule, changed
    return None, None


def use_list(rules, plan, widths, most=100):
    """Return a pair of the plan behind a list of rules, used again and again, and the list of the moves."""
    moves = []
    while len(moves) < most:
        rule, changed = _first_use(rules, plan, widths)
        if rule is None:
            break
        moves.append((rule, 0))
        plan = changed
    return plan, moves


def _other_orders(plan, widths):
    """Return a pair of the plan and the list of the moves for each other order of joins that is tried."""
    found = []
    for rule in ("commute", "exchange"):
        for number, changed in enumerate(places(rule, plan, widths)):
            changed, moves = use_list(_BEHIND_A_MOVE, changed, widths)
            found.append((changed, [(rule, number)] + moves))
    return found


def ordered(plan, statistics):
    """Return a pair of the plan with its joins in order, and the list of the moves."""
    widths = widths_of(statistics)
    moves = []
    cost = plan_cost(plan, statistics)
    for _ in range(_MOST_ORDERS):
        tried = [(plan_cost(other, statistics), other, more) for other, more in _other_orders(plan, widths)]
        best = min(tried, key=lambda one: one[0], default=None)
        if best is None or best[0] >= cost:
            break
        cost, plan, made = best
        moves = moves + made
    return plan, moves


def default_moves(plan, statistics):
    """Return the list of the moves of the default."""
    widths = widths_of(statistics)
    plan, first = use_list(_FIRST, plan, widths)
    plan, second = ordered(plan, statistics)
    _, third = use_list(_LAST, plan, widths)
    return first + second + third
