"""Texts of queries by chance, over the tables of tests.queries; all brackets stand in them."""

COLUMNS = {"int": ["a"], "text": ["b"], "decimal": ["c"], "date": ["d"], "bool": ["e"]}
KINDS = ("int", "text", "decimal", "date", "bool")


class Maker:
    """Makes expressions of each kind over the columns in reach."""

    def __init__(self, chance):
        self.chance = chance

    def blank(self):
        return self.chance.choice([" ", "  ", "\n", "\t", " -- why\n"])

    def word(self, word):
        return self.chance.choice([word, word, word.upper(), word.capitalize()])

    def leaf(self, kind):
        chance = self.chance
        if chance.random() < 0.5:
            name = chance.choice(COLUMNS[kind])
            return chance.choice([name, f'"{name}"', f"t.{name}", f"t . {name}"])
        return self.literal(kind)

    def literal(self, kind):
        chance = self.chance
        if kind == "int":
            return chance.choice(["0", "1", "007", "-5", "- 5", "-0", "1000000000000000"])
        if kind == "decimal":
            return chance.choice(["0.5", "1.50", "-2.0", "- 0.0", "00.0001", "100000000000.0"])
        if kind == "text":
            return chance.choice(["''", "'it''s'", "'a\"b'", "'--'", "' '"])
        if kind == "date":
            return self.word("date") + " '2026-02-28'"
        return self.word(chance.choice(["true", "false"]))

    def bracketed(self, kind, depth):
        text = self.expression(kind, depth)
        return f"({text})" if self.chance.random() < 0.9 or depth > 0 else text

    def number(self):
        return self.chance.choice(["int", "decimal"])

    def expression(self, kind, depth):
        chance = self.chance
        if depth <= 0 or chance.random() < 0.15:
            return self.leaf(kind)
        if chance.random() < 0.1:
            parts = [self.bracketed(k, depth - 1) for k in ("bool", kind, kind)]
            words = [self.word(w) for w in ("case", "when", "then", "else", "end")]
            return f"{words[0]} {words[1]} {parts[0]} {words[2]} {parts[1]} {words[3]} {parts[2]} {words[4]}"
        if chance.random() < 0.1:
            return f"coalesce ({self.expression(kind, depth - 1)} ,{self.expression(kind, depth - 1)})"
        makers = {"int": self.make_int, "decimal": self.make_decimal, "text": self.make_text, "date": self.make_date,
                  "bool": self.make_bool}
        return makers[kind](depth - 1)

    def make_int(self, depth):
        sign = self.chance.choice(["+", "-", "*", "/", self.word("mod"), "neg", "call"])
        if sign == "neg":
            return "-" + " " + self.bracketed("int", depth)
        if sign == "call":
            return f"length({self.expression('text', depth)})"
        return f"{self.bracketed('int', depth)}{self.blank()}{sign} {self.bracketed('int', depth)}"

    def make_decimal(self, depth):
        sign = self.chance.choice(["+", "-", "*", "/", self.word("mod"), "neg"])
        if sign == "neg":
            return "-" + " " + self.bracketed("decimal", depth)
        kinds = self.chance.choice([("int", "decimal"), ("decimal", "int"), ("decimal", "decimal")])
        return f"{self.bracketed(kinds[0], depth)} {sign} {self.bracketed(kinds[1], depth)}"

    def make_text(self, depth):
        if self.chance.random() < 0.5:
            return f"{self.bracketed('text', depth)}||{self.bracketed('text', depth)}"
        return f"part({self.expression('text', depth)}, {self.expression('int', depth)}, 2)"

    def make_date(self, depth):
        if self.chance.random() < 0.5:
            return f"{self.bracketed('date', depth)} + {self.bracketed('int', depth)}"
        return f"{self.bracketed('date', depth)} - {self.bracketed('int', depth)}"

    def make_bool(self, depth):
        chance = self.chance
        shape = chance.randrange(8)
        kind = chance.choice(KINDS)
        if shape == 0:
            return f"{self.word('not')} {self.bracketed('bool', depth)}"
        if shape in (1, 2):
            return f"{self.bracketed('bool', depth)} {self.word(chance.choice(['and', 'or']))} {self.bracketed('bool', depth)}"
        if shape == 3:
            return f"{self.bracketed(kind, depth)} {self.word('is')} {chance.choice(['', 'not '])}{self.word('null')}"
        negation = chance.choice(["", "not ", "NOT "])
        if shape == 4:
            return f"{self.bracketed('text', depth)} {negation}{self.word('like')} {self.bracketed('text', depth)}"
        if shape == 5:
            return (f"{self.bracketed(kind, depth)} {negation}between {self.bracketed(kind, depth)} and "
                    f"{self.bracketed(kind, depth)}")
        if shape == 6:
            literals = " , ".join(self.literal(kind) for _ in range(chance.randrange(1, 4)))
            return f"{self.bracketed(kind, depth)} {negation}{self.word('in')} ({literals})"
        sign = chance.choice(["=", "<>", "!=", "<", "<=", ">", ">="])
        return f"{self.bracketed(kind, depth)}{sign}{self.bracketed(kind, depth)}"

    def steps(self, many):
        """Steps that leave the columns of t as they are, and then some that do not."""
        chance = self.chance
        text = ""
        for number in range(many):
            condition = self.expression("bool", 2)
            text += self.blank() + chance.choice([
                f"where {condition}", "DISTINCT", f"where Exists u on u.x = {self.expression('text', 1)}",
                "where not exists (from u where a is null) as s on s.x = b",
                f"where [{self.expression('int', 1)}] not in (from v limit 3)", "union (from t where e)",
                f"order by {self.expression('int', 1)} desc nulls last, b asc limit 05 offset 1",
                "order by a Nulls First", "limit 4", f"except (from t order by {self.expression('bool', 1)} limit 1)",
                "let k = (from v order by n desc)" if number == many - 1 else "intersect (from t)",
                self.window() if number == many - 1 else "distinct"])
        return text

    def window(self):
        return ("window partition by b order by d compute number() as n, BEFORE(a, 1) as o, "
                f"sum({self.expression('int', 1)}) rows 01 before and 2 after as p, tile(03) as q")

    def last_step(self):
        chance = self.chance
        return self.blank() + chance.choice([
            "", f"select {self.expression('int', 2)} as x, b, t.c as \"C d\", {self.expression('text', 1)} as \"Select\"",
            f"group by cube b as k, {self.expression('date', 1)} as l aggregate count(*) as n, "
            f"count(distinct a) where {self.expression('bool', 1)} as m, grouping(\"k\") as g",
            "group by a, b sets (a , b), (), (a) aggregate list(b) as l, avg(c) as v",
            f"aggregate sum({self.expression('decimal', 1)}) as s", "group by rollup e",
            f"extend {self.expression('date', 2)} as later",
            f"full join u as w on {self.chance.choice(['w.x = b', 'true'])} order by x desc",
            "join (from u select x) as y on y.x = b limit 3", "cross join v as z"])

    def query(self):
        text = "from t" + self.steps(self.chance.randrange(0, 3)) + self.last_step()
        if self.chance.random() < 0.2:
            return f"with t2 as (from t where e) WITH t as (from t2) {text}"
        return text
