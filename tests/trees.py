"""Expressions for the tests, and their measures as point 4.2 tells them, by recursion."""

import random
from fractions import Fraction

X = ("x",)
UNARY = ("neg", "exp", "log")
BINARY = ("add", "sub", "mul", "div")


def num(n, d=1):
    return ("num",) + Fraction(n, d).as_integer_ratio()


def operands(e):
    if e[0] in BINARY:
        return (e[1], e[2])
    return (e[1],) if e[0] in UNARY + ("pow",) else ()


def count(e):
    return 1 + sum(count(a) for a in operands(e))


def depth(e):
    return 1 + max([depth(a) for a in operands(e)], default=0)


def weight(e):
    if e[0] == "num":
        return len(str(abs(e[1]))) + len(str(e[2]))
    inner = [weight(a) for a in operands(e)]
    return {"x": lambda: 1, "neg": lambda: inner[0], "pow": lambda: 1 + abs(e[2]) * inner[0],
            "exp": lambda: inner[0] + 2, "log": lambda: inner[0] + 2}.get(
                e[0], lambda: 1 + sum(inner))()


def is_small(e):
    return count(e) <= 300 and depth(e) <= 40 and weight(e) <= 400


def chance_tree(chance, levels, words=UNARY + BINARY + ("pow",)):
    if levels == 1 or chance.random() < 0.15:
        kind = chance.randint(0, 4)
        if kind < 2:
            return X
        return num(chance.randint(-20, 20), 1 if kind < 4 else chance.randint(1, 9))
    word = chance.choice(words)
    inner = chance_tree(chance, levels - 1, words)
    if word == "pow":
        return (word, inner, chance.choice((-30, -2, -1, 0, 1, 2, 3, 30)))
    if word in UNARY:
        return (word, inner)
    return (word, inner, chance_tree(chance, chance.randint(1, levels - 1), words))


def chance_trees(seed, how_many, levels=6, words=UNARY + BINARY + ("pow",)):
    """Returns every kind of node, and then chance trees."""
    a, b = X, num(-3, 2)
    found = [X, num(0), num(5), num(-5), num(1, 2), num(-1, 2)]
    found += [(word, s, t) for word in BINARY for s in (a, b) for t in (a, b)]
    found += [(word, s) for word in UNARY for s in (a, b)]
    found += [("pow", s, k) for s in (a, b) for k in (-30, -1, 0, 1, 2, 30)]
    chance = random.Random(seed)
    while len(found) < how_many:
        found.append(chance_tree(chance, chance.randint(2, levels), words))
    return found


def chain(word, levels, inner=X):
    """Returns a tree of so many levels: one kind of node over the other."""
    e = inner
    for _ in range(levels - 1):
        if word in BINARY:
            e = (word, e, X)
        elif word == "pow":
            e = (word, e, 1)
        else:
            e = (word, e)
    return e
