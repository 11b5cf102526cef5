"""Trees of formulas for the tests, and what they give, by the words of part N."""

from fractions import Fraction


def some_tree(chance, deep, percents=(0, 400), kilos=(0, 9999)):
    """A random tree of at most this depth."""
    kind = chance.random()
    if deep == 0 or kind < 0.25:
        return chance.choice((("percent", chance.randint(*percents)), ("kilo", chance.randint(*kilos))))
    if kind < 0.4:
        terms = [some_tree(chance, deep, percents, kilos) for _ in range(chance.randint(2, 3))]
        # A sum has no sum among its terms.
        flat = [part for term in terms for part in (term[1] if term[0] == "sum" else (term,))]
        return ("sum", tuple(flat))
    if kind < 0.55:
        return ("half", some_tree(chance, deep - 1, percents, kilos))
    word = "greater" if kind < 0.8 else "less"
    return (word, some_tree(chance, deep - 1, percents, kilos), some_tree(chance, deep - 1, percents, kilos))


def told_duty(tree, value, weight):
    """By [N5]."""
    word, *rest = tree
    if word == "percent":
        return Fraction(rest[0] * value, 100)
    if word == "kilo":
        return Fraction(rest[0] * weight)
    if word == "sum":
        return sum((told_duty(part, value, weight) for part in rest[0]), Fraction(0))
    duties = [told_duty(part, value, weight) for part in rest]
    return {"greater": max, "less": min, "half": lambda rows: rows[0] / 2}[word](duties)


def pair(number):
    """A Fraction as a fraction of part A."""
    return number.numerator, number.denominator


def told_tokens(tree):
    """The tokens of a tree."""
    word, *rest = tree
    if word == "percent":
        return [str(rest[0]), "percent"]
    if word == "kilo":
        return [str(rest[0]), "per", "kg"]
    if word == "sum":
        return [token for k, part in enumerate(rest[0]) for token in ["+"] * (k > 0) + told_tokens(part)]
    inner = [token for k, part in enumerate(rest) for token in [","] * (k > 0) + told_tokens(part)]
    return [word, "of", "(", *inner, ")"]


def told_leaves(tree):
    word, *rest = tree
    if word in ("percent", "kilo"):
        return 1
    return sum(told_leaves(part) for part in (rest[0] if word == "sum" else rest))


def told_depth(tree):
    word, *rest = tree
    if word in ("percent", "kilo"):
        return 0
    if word == "sum":
        return max(told_depth(part) for part in rest[0])
    return 1 + max(told_depth(part) for part in rest)
