"""Points 2 and 166: random sequences of calls, and what holds behind each of them."""

import random
import unittest

from stylobate.engine.engine import Engine
from stylobate.engine.given import told_rows
from stylobate.errors import InvalidEncoding, InvalidRow, QueryError, StylobateError, TooMany, UnknownGroup
from stylobate.meaning.plans import answer_of
from stylobate.optimizer.rules import RULES
from stylobate.storage.forms import FORMS
from tests.engines import state_of
from tests.queries import TABLES
from tests.random_queries import Maker

VALUES = {
    "int": [0, 1, 2, 3, -5, 7], "text": ["", "a", "b", "ab", "it's"], "decimal": ["0.5", "1.50", "-2", 0, 3],
    "date": ["2026-02-28", "2026-01-01", "0001-01-01", "9999-12-31"], "bool": [True, False],
}


def value_of(chance, kind, nullable):
    return None if nullable and chance.random() < 0.3 else chance.choice(VALUES[kind])


class Calls:
    """Makes random calls to an engine whose tables are those of tests.queries."""

    def __init__(self, chance):
        self.chance = chance
        self.maker = Maker(chance)
        self.engine = Engine()
        self.kept = {}
        for name, columns in TABLES:
            self.engine.create(name, columns, chance.choice([1, 2, 3, 5]))

    def rows(self, columns, most=5):
        return [[value_of(self.chance, kind, nullable) for _, kind, nullable in columns]
                for _ in range(self.chance.randrange(most))]

    def alone(self, kind, depth):
        """An expression on the columns of t by their own names."""
        return self.maker.expression(kind, depth).replace("t . ", "").replace("t.", "")

    def deed(self):
        chance = self.chance
        name, columns = chance.choice(TABLES)
        shape = chance.random()
        if shape < 0.6:
            return ("insert", name, self.rows(columns))
        if shape < 0.75:
            return ("remove", "t", self.alone("bool", 2))
        return ("update", "t", [("a", self.alone("int", 1)), ("b", self.alone("text", 1))], self.alone("bool", 2))

    def lay_out(self):
        chance, engine = self.chance, self.engine
        name, columns = chance.choice(TABLES)
        shape = chance.randrange(4)
        if shape == 0:
            engine.flush(name)
        elif shape == 1:
            engine.merge(name)
        elif shape == 2:
            engine.cluster(name, [(columns[0][0], chance.random() < 0.5)])
        else:
            engine.reencode(name, chance.randrange(2), columns[0][0], chance.choice(FORMS))

    def keep(self):
        text = self.maker.query()
        name = f"k{len(self.kept)}"
        self.engine.keep(name, text)
        self.kept[name] = self.engine.plan_of(text)

    def make(self):
        """Make a call; an error changes nothing."""
        before = state_of(self.engine)
        try:
            shape = self.chance.random()
            if shape < 0.5:
                deed = self.deed()
                getattr(self.engine, deed[0])(*deed[1:])
            elif shape < 0.6:
                self.engine.apply_all([self.deed() for _ in range(3)])
            elif shape < 0.8:
                self.lay_out()
            else:
                self.keep()
        except (QueryError, InvalidRow, UnknownGroup, InvalidEncoding, TooMany):
            return state_of(self.engine) == before
        return True

    def options(self):
        chance = self.chance
        moves = None
        if chance.random() < 0.7:
            moves = [(chance.choice(RULES), chance.randrange(2)) for _ in range(chance.randrange(12))]
        return {"batch": chance.choice([1, 2, 64]), "memory": chance.choice([1, 2, 5, 1000]), "moves": moves,
                "choices": [chance.randrange(5) for _ in range(chance.randrange(4))]}


class Everything(unittest.TestCase):
    def check_query(self, calls, text):
        engine = calls.engine
        query = engine.plan_of(text)
        wanted = told_rows(answer_of(query, engine.rows_of_tables()), query.kinds)
        for _ in range(3):
            options = calls.options()
            answer = engine.query(text, **options)
            self.assertEqual(repr(answer.rows), repr(wanted), (text, options))
            self.assertEqual((answer.names, answer.kinds), (query.names, query.kinds))
        self.assertEqual(repr(engine.query(text).rows), repr(wanted), text)
        self.assertEqual(len(engine.profile(text)), len(engine.explain(text)["run"]))

    def check_kept(self, calls):
        for name, query in calls.kept.items():
            wanted = told_rows(answer_of(query, calls.engine.rows_of_tables()), query.kinds)
            self.assertEqual(repr(calls.engine.kept(name).rows), repr(wanted), name)

    def test_answers_are_what_queries_mean(self):
        chance = random.Random(166)
        refused = 0
        for _ in range(60):
            calls = Calls(chance)
            for _ in range(10):
                self.assertTrue(calls.make())
                self.check_kept(calls)
                text = calls.maker.query()
                try:
                    self.check_query(calls, text)
                except QueryError:
                    refused += 1
        self.assertLess(refused, 60)

    def test_layouts_do_not_matter(self):
        chance = random.Random(167)
        for _ in range(25):
            calls, other = Calls(chance), Engine()
            for _ in range(6):
                calls.make()
            rows = [calls.engine.query(f"from {name}").rows for name, _ in TABLES]
            for (name, columns), told in zip(TABLES, rows):
                other.create(name, columns, chance.choice([1, 4, 1000]))
                chance.shuffle(told)
                other.insert(name, told)
            for _ in range(4):
                text = calls.maker.query()
                try:
                    wanted = calls.engine.query(text)
                except QueryError:
                    continue
                found = other.query(text, **calls.options())
                self.assertEqual(repr([found.names, found.kinds, found.rows]),
                                 repr([wanted.names, wanted.kinds, wanted.rows]), text)

    def test_rollbacks_and_saved_tables(self):
        chance = random.Random(168)
        for _ in range(30):
            calls = Calls(chance)
            for _ in range(5):
                calls.make()
            engine = calls.engine
            before, kept = state_of(engine), dict(calls.kept)
            text = calls.maker.query()
            explained = self.explained(engine, text)
            for _ in range(2):
                engine.begin()
                for _ in range(4):
                    calls.make()
            engine.commit()
            engine.rollback()
            calls.kept = kept
            self.assertEqual(state_of(engine), before)
            self.assertEqual(self.explained(engine, text), explained)
            calls.make()
            self.check_kept(calls)
            for name, _ in TABLES:
                octets = engine.save(name)
                engine.restore("copy", octets)
                self.assertEqual((engine.layout("copy"), engine.save("copy")), (engine.layout(name), octets))
                engine.drop("copy")

    def explained(self, engine, text):
        try:
            return (engine.explain(text), engine.query(text, memory=1).counters)
        except StylobateError as error:
            return str(error)
