"""Point 126: moves, rules that are used at one of the places of a plan."""

import random
import unittest

from stylobate.meaning.plans import rows_of
from stylobate.optimizer.moves import make_move, make_moves, places
from stylobate.optimizer.rules import RULES
from tests.random_plans import WIDTHS, Plans, bag
from tests.samples import column, constant, is_exactly

A, B = column(0), column(1)
TRUE = constant(True)
T, U = ("table", 0), ("table", 1)
DROP = "drop filter"


def true(plan):
    return ("filter", TRUE, plan)


class Moves(unittest.TestCase):
    def setUp(self):
        # The filters by True, in order: above the union, two on the left side, one on the right.
        self.plan = true(("union", true(true(T)), ("distinct", true(U))))

    def test_places(self):
        found = places(DROP, self.plan, WIDTHS)
        self.assertEqual(found, [
            ("union", true(true(T)), ("distinct", true(U))),
            true(("union", true(T), ("distinct", true(U)))),
            true(("union", true(T), ("distinct", true(U)))),
            true(("union", true(true(T)), ("distinct", U))),
        ])
        self.assertEqual(places("commute", self.plan, WIDTHS), [])
        self.assertEqual(places(DROP, T, WIDTHS), [])

    def test_the_left_side_comes_first(self):
        one, two, three = [("filter", column(number), T) for number in (0, 1, 0)]
        plan = ("join", "inner", 2, TRUE, ("union", ("filter", A, one), T), ("filter", A, ("filter", B, two)))
        found = places("merge filters", plan, WIDTHS)
        both = ("binary", "and", A, A)
        self.assertEqual(found, [
            plan[:4] + (("union", ("filter", both, T), T), plan[5]),
            plan[:5] + (("filter", ("binary", "and", B, A), two),),
            plan[:5] + (("filter", A, ("filter", ("binary", "and", B, B), T)),),
        ])
        self.assertEqual(three, one)

    def test_moves(self):
        found = places(DROP, self.plan, WIDTHS)
        for number in range(4):
            self.assertEqual(make_move((DROP, number), self.plan, WIDTHS), found[number])
        for number in (4, 5, 99):
            self.assertEqual(make_move((DROP, number), self.plan, WIDTHS), self.plan)
        self.assertEqual(make_move(("commute", 0), self.plan, WIDTHS), self.plan)

    def test_several_moves(self):
        self.assertEqual(make_moves([], self.plan, WIDTHS), self.plan)
        self.assertEqual(make_moves([(DROP, 3), ("fold", 0), (DROP, 3), (DROP, 1), (DROP, 0)], self.plan, WIDTHS),
                         ("union", true(T), ("distinct", U)))
        self.assertEqual(make_moves([(DROP, 0)] * 9, self.plan, WIDTHS), ("union", T, ("distinct", U)))
        self.assertEqual(make_moves([("filter below union", 0), (DROP, 0)], self.plan, WIDTHS),
                         ("union", true(true(T)), true(("distinct", true(U)))))

    def test_random_moves_keep_the_bag(self):
        chance = random.Random(126)
        for _ in range(150):
            plans = Plans(chance)
            plan, _ = plans.plan(4)
            tables = plans.tables(4)
            moves = [(chance.choice(RULES), chance.randrange(3)) for _ in range(12)]
            found = make_moves(moves, plan, WIDTHS)
            self.assertEqual(bag(rows_of(found, tables)), bag(rows_of(plan, tables)), (plan, moves))
            one = plan
            for move in moves:
                told = places(move[0], one, WIDTHS)
                one = told[move[1]] if move[1] < len(told) else one
            self.assertTrue(is_exactly(found, one))

    def test_deep_plans(self):
        plan = T
        for _ in range(180):
            plan = true(plan)
        self.assertEqual(make_move((DROP, 179), plan, WIDTHS), plan[2])
        self.assertEqual(len(places(DROP, plan, WIDTHS)), 180)
        self.assertEqual(make_move((DROP, 180), plan, WIDTHS), plan)
