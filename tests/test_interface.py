"""The interface: names, parameters, places; and points 0.1 to 0.3."""

import ast
import importlib
import inspect
import os
import unittest

import integraph

PACKAGE = os.path.dirname(integraph.__file__)

# The parts in their order: each uses only parts before it.
ORDER = ("errors", "rational", "linear", "wholes", "clearing", "polynomial", "divisor", "field",
         "words", "expressions", "printing", "roots", "resultant", "tower", "vectors", "build",
         "answers", "hermite", "residues", "poles", "equation", "limited", "integral", "forms",
         "checker", "sheet", "replies", "log", "console")

FUNCTIONS = {
    "rational": (
        "is_rational(value)", "rational(n, d)", "radd(a, b)", "rsub(a, b)", "rmul(a, b)",
        "rneg(a)", "rinv(a)", "rdiv(a, b)", "rpow(a, k)", "rcompare(a, b)", "rsign(a)",
        "rfloor(a)", "rwhole(a)", "format_integer(n)", "parse_digits(text)",
        "format_rational(a)", "parse_rational(text)"),
    "linear": (
        "dot(a, b)", "times(rows, x)", "combination(rows, width, y)", "echelon(rows, width)",
        "kernel(rows, width)", "solve(rows, width, right)", "shows_none(rows, width, right, y)",
        "basis(vectors, length)", "contains(space, length, v)", "span_both(one, two, length)",
        "meet(one, two, length)", "primitive(v)"),
    "polynomial": (
        "trim(field, coefficients)", "degree(p)", "last(p)", "constant(field, e)",
        "monomial(field, e, k)", "padd(field, p, q)", "psub(field, p, q)", "pneg(field, p)",
        "pmul(field, p, q)", "pscale(field, p, e)", "ppow(field, p, k)", "pdivide(field, p, q)",
        "pquotient(field, p, q)", "pmonic(field, p)", "pformal(field, p)", "pvalue(field, p, e)",
        "pcompose(field, p, q)", "is_polynomial(field, value)"),
    "divisor": (
        "pgcd(field, p, q)", "pbezout(field, p, q)", "psolve(field, a, b, c)",
        "squarefree(field, p)", "squarefree_part(field, p)", "separate(field, p, q)",
        "partial(field, a, factors)"),
    "words": ("tokens(text)",),
    "expressions": (
        "is_expression(value)", "count(e)", "depth(e)", "weight(e)", "differentiate(e)",
        "evaluate(e, q)", "substitute(e, f)"),
    "printing": ("parse(text)", "plain(e)", "show(e)"),
    "resultant": (
        "resultant(field, p, q)", "zvalue(field, p, e)", "zresultant(field, p, q)",
        "linear_resultant(field, p, a, b)", "zdivisors(field, p, q, r)"),
    "roots": ("rational_roots(p)", "integer_roots(p)", "integer_roots_in(field, p)"),
    "vectors": (
        "value(n, e, point)", "combination(n, items, target)",
        "is_apart(n, items, target, rows)"),
    "build": (
        "grounds(tower, n)", "build(expressions)", "is_tower(monomials, witness)",
        "expression(tower, e)"),
    "answers": (
        "is_answer(tower, n, value)", "power_sums(r, count)", "root_sum(field, r, q)",
        "log_derivative(tower, n, r, s)", "derivative(tower, n, answer)",
        "add_answers(tower, n, one, two)", "raise_answer(tower, answer, low, high)",
        "plain(tower, n, e)", "rational_log(tower, n, c, e)"),
    "hermite": (
        "hermite(tower, n, f)", "is_reduction(tower, n, f, g, h, r)", "is_proper(n, e)",
        "is_simple(tower, n, e)", "is_reduced(tower, n, e)"),
    "residues": (
        "residue_polynomial(tower, n, h)", "constant_residues(tower, n, h)",
        "logarithms(tower, n, h)", "by_powers_of_z(field, g)"),
    "poles": (
        "clear(tower, n, w, g)", "coprime_parts(n, polynomials)", "order_at(n, p, e)"),
    "equation": (
        "cancelling(tower, n, e)", "bounds(tower, n, w, g)", "equation(tower, n, w, g)",
        "refutes(tower, n, w, g, data)", "applied(tower, n, w, y)"),
    "limited": ("head(tower, n, u)", "log_quotient(tower, n, u)", "limited(tower, n, g, us)"),
    "integral": ("integrate(tower, n, f)", "holds(tower, n, f, answer)"),
    "forms": (
        "is_index_tuple(value, count)", "is_element_tuple(tower, n, value)",
        "has_shape(value, word, count)"),
    "checker": ("accepts(tower, n, f, data)", "accepts_limited(tower, n, g, us, data)"),
    "sheet": (
        "is_name(value)", "full_text(names, text)", "read_line(names, line)",
        "answer_text(tower, answer)"),
    "replies": ("plain_reply(names, line)", "is_right(names, entry)"),
    "log": (
        "write_data(value)", "read_data(text)", "write_log(entries)", "read_log(text)",
        "first_wrong(entries)"),
    "console": ("reply_to(names, line)",),
}

CLASSES = {"errors": ("Fault", "ZeroDivisor", "Malformed", "Refused", "TooLarge", "NoText"),
           "field": ("Rationals", "RationalFunctions"), "tower": ("Tower",), "console": ("Console",)}

FIELD = ("level(self)", "zero(self)", "one(self)", "is_zero(self, a)", "add(self, a, b)",
         "subtract(self, a, b)", "negative(self, a)", "multiply(self, a, b)", "inverse(self, a)",
         "divide(self, a, b)", "power(self, a, k)", "rational(self, q)", "as_rational(self, a)",
         "is_element(self, value)")

METHODS = {
    ("field", "Rationals"): ("__init__()",) + FIELD,
    ("field", "RationalFunctions"): ("__init__(base)",) + FIELD + (
        "variable(self)", "fraction(self, p, q)", "lift(self, e)", "lowered(self, a)"),
    ("tower", "Tower"): (
        "__init__(monomials)", "height(self)", "monomials(self)", "kind(self, n)",
        "argument(self, n)", "field(self, n)", "variable(self, n)",
        "raise_to(self, e, low, high)", "lower_to(self, e, high, low)", "ground(self, n)",
        "derive(self, n, e)", "derive_polynomial(self, n, p)", "is_normal(self, n, p)",
        "is_special(self, n, p)", "special_split(self, n, p)", "parts(self, n, e)",
        "terms(self, n, r)", "from_terms(self, n, terms)", "constant_part(self, n, e)",
        "log_part(self, n, e, l)", "is_normal_tower(self)"),
    ("console", "Console"): ("__init__()", "enter(self, line)", "entries(self)", "names(self)"),
}


def tree(part):
    with open(os.path.join(PACKAGE, part + ".py"), encoding="ascii") as file:
        return ast.parse(file.read())


class Interface(unittest.TestCase):
    def test_functions_have_their_names_and_parameters(self):
        for part, lines in FUNCTIONS.items():
            module = importlib.import_module("integraph." + part)
            for line in lines:
                name = line.partition("(")[0]
                function = getattr(module, name)
                self.assertEqual(name + str(inspect.signature(function)), line)

    def test_functions_and_classes_are_defined_in_their_files(self):
        for part in ORDER:
            here = {node.name for node in tree(part).body
                    if isinstance(node, (ast.FunctionDef, ast.ClassDef))}
            for line in FUNCTIONS.get(part, ()):
                self.assertIn(line.partition("(")[0], here)
            for name in CLASSES.get(part, ()):
                self.assertIn(name, here)

    def test_methods_are_defined_in_their_classes(self):
        for (part, name), lines in METHODS.items():
            kind = getattr(importlib.import_module("integraph." + part), name)
            self.assertEqual("__init__" + str(inspect.signature(kind)), lines[0])
            for line in lines[1:]:
                method = line.partition("(")[0]
                self.assertIn(method, vars(kind))
                self.assertEqual(method + str(inspect.signature(vars(kind)[method])), line)

    def test_the_package_itself_defines_nothing(self):
        body = tree("__init__").body
        self.assertEqual([node for node in body if not isinstance(node, ast.Expr)], [])


class Parts(unittest.TestCase):
    def test_parts_use_only_parts_before_them(self):
        for at, part in enumerate(ORDER):
            for node in ast.walk(tree(part)):
                if isinstance(node, ast.ImportFrom) and node.module.startswith("integraph"):
                    self.assertIn(node.module.partition(".")[2], ORDER[:at])

    def test_checking_searches_for_nothing(self):
        searches = {"integrate", "limited", "equation", "lowered_powers", "logarithms", "Solver"}
        for part in ("forms", "checker", "sheet", "replies", "log"):
            for node in ast.walk(tree(part)):
                if isinstance(node, ast.ImportFrom):
                    self.assertEqual({name.name for name in node.names} & searches, set(), part)
        # What the checker takes from there calls none of them either.
        for part, names in (("equation", ("refutes", "_digit_refutes", "_refutes_below", "_digit")),
                            ("limited", ("log_quotient", "head", "product_of_heads",
                                         "relation_vectors", "less_multiples",
                                         "multiple_of_argument", "lower_arguments"))):
            functions = {node.name: node for node in tree(part).body
                         if isinstance(node, ast.FunctionDef)}
            for name in names:
                called = {node.id for node in ast.walk(functions[name])
                          if isinstance(node, ast.Name)}
                self.assertEqual(called & searches, set(), name)

    def test_every_part_is_in_the_order(self):
        found = sorted(name[:-3] for name in os.listdir(PACKAGE) if name.endswith(".py"))
        self.assertEqual(found, sorted(ORDER + ("__init__",)))

    def test_nothing_at_module_level_is_changed(self):
        for part in ORDER:
            module = importlib.import_module("integraph." + part)
            tables = {name for name, value in vars(module).items()
                      if isinstance(value, (list, dict, set)) and not name.startswith("__")}
            self.assert_only_looked_up(part, tables)

    def assert_only_looked_up(self, part, tables):
        """Tables are read by an index or by `in`, and never named otherwise."""
        whole = tree(part)
        allowed = set()
        for node in ast.walk(whole):
            if isinstance(node, ast.Subscript) and isinstance(node.ctx, ast.Load):
                allowed.add(node.value)
            if isinstance(node, ast.Compare) and isinstance(node.ops[0], (ast.In, ast.NotIn)):
                allowed.add(node.comparators[0])
        for node in ast.walk(whole):
            if isinstance(node, ast.Name) and node.id in tables and node not in allowed:
                self.assertIn(node, [target for line in whole.body if isinstance(line, ast.Assign)
                                     for target in line.targets], part)


if __name__ == "__main__":
    unittest.main()
