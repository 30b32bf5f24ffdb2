"""Asking: from the text of a query to its rows, and what is told of the way."""

from stylobate.engine.answers import Answer, Step
from stylobate.engine.given import told_rows
from stylobate.language.queries import bind_query
from stylobate.meaning.order import cut_rows, sorted_rows
from stylobate.optimizer.choices import expectations, physical
from stylobate.optimizer.default import default_moves
from stylobate.optimizer.moves import make_moves
from stylobate.optimizer.shown import shown_line, shown_move, shown_physical, shown_plan, with_depths
from stylobate.running.profile import profile
from stylobate.running.run import answer
from stylobate.separated.writing import write_separated


class Way:
    """The way of a query: as it was bound, the moves, the plan behind them, and the physical plan."""

    def __init__(self, query, statistics, moves, rewritten, run):
        self.bound = query
        self.statistics = statistics
        self.moves = moves
        self.rewritten = rewritten
        self.run = run


def way_of(store, text, options):
    """Return the way of a query."""
    bound = bind_query(text, store.catalog(options.parameters))
    statistics = store.statistics_for(bound.plan)
    moves = options.moves
    if moves is None:
        moves = default_moves(bound.plan, statistics)
    rewritten = make_moves(moves, bound.plan, store.widths())
    return Way(bound, statistics, moves, rewritten, physical(rewritten, statistics, options.choices))


def _told_counters(counters):
    return (counters.read, counters.skipped, counters.batches, counters.written)


def in_order_of(query, rows):
    """Return the rows of the plan of a query, in its order and cut."""
    return cut_rows(sorted_rows(rows, query.order), query.skip, query.limit)


def told_answer(query, rows, counters):
    """Return the answer of a query, for the rows of its plan."""
    return Answer(query.names, query.kinds, told_rows(in_order_of(query, rows), query.kinds), counters)


def _run_rows(store, way, options):
    return answer(way.run, store.all_tables(), batch=options.batch, memory=options.memory)


def answer_query(store, text, options):
    """Return the answer of a query."""
    way = way_of(store, text, options)
    rows, counters = _run_rows(store, way, options)
    return told_answer(way.bound, rows, _told_counters(counters))


def export_query(store, text, separator, head, options):
    """Return the answer of a query as a text with separators."""
    way = way_of(store, text, options)
    rows, _ = _run_rows(store, way, options)
    columns = list(zip(way.bound.names, way.bound.kinds))
    return write_separated(columns, in_order_of(way.bound, rows), separator=separator, head=head)


def explain_query(store, text, options):
    """Return a dict of the lines of the plan of a query, its moves, and its physical plan."""
    way = way_of(store, text, options)
    names = store.table_names()
    return {
        "written": shown_plan(way.bound.plan, names),
        "moves": [shown_move(move) for move in way.moves],
        "rewritten": shown_plan(way.rewritten, names),
        "run": shown_physical(way.run, names),
    }


def profile_query(store, text, options):
    """Return the list of the steps of all operators of the physical plan of a query."""
    way = way_of(store, text, options)
    names = store.table_names()
    works = profile(way.run, store.all_tables(), batch=options.batch, memory=options.memory)
    told = list(zip(works, with_depths(way.run), expectations(way.run, way.statistics)))
    steps = []
    for work, (operator, depth), (rows, cost) in told:
        line = shown_line(operator, names)
        steps.append(Step(line, depth, rows, cost, work.given, work.needs, _told_counters(work.counters)))
    return steps
