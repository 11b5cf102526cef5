"""[N1] to [N5] and quaybest.formulas."""

import random
import re

from quaybest.formulas import BadFormula, TooLong, depth, duty, leaves, read_formula, write_formula
from support import Case, listed
from trees import pair, some_tree, told_depth, told_duty, told_leaves, told_tokens

# The grammar of [N1]; "n" is a number of at most 400, "N" any number.
RULES = {"F": [["T", "R"]], "R": [[], ["+", "T", "R"]],
         "T": [["n", "percent"], ["N", "per", "kg"], ["greater", "of", "(", "F", ",", "F", ")"],
               ["less", "of", "(", "F", ",", "F", ")"], ["half", "of", "(", "F", ")"]]}


def can_stand(symbol, token):
    if symbol in ("n", "N"):
        return token.isdigit() and (symbol == "N" or int(token) <= 400)
    return token == symbol


def goes_on(symbols, tokens):
    """True if what the symbols stand for can begin with the tokens."""
    if not tokens:
        return True
    if not symbols:
        return False
    if symbols[0] in RULES:
        return any(goes_on(rule + symbols[1:], tokens) for rule in RULES[symbols[0]])
    return can_stand(symbols[0], tokens[0]) and goes_on(symbols[1:], tokens[1:])


def is_whole(symbols, tokens):
    """True if the symbols can stand for the tokens."""
    if symbols and symbols[0] in RULES:
        return any(is_whole(rule + symbols[1:], tokens) for rule in RULES[symbols[0]] if len(rule) <= len(tokens))
    if not symbols or not tokens:
        return not symbols and not tokens
    return can_stand(symbols[0], tokens[0]) and is_whole(symbols[1:], tokens[1:])


def told_position(text):
    """Where a text goes wrong, by [N3]; None for a formula."""
    tokens = []
    for match in re.finditer("[0-9]+|[a-z]+|[^ ]", text):
        run = match.group()
        is_token = re.fullmatch("0|[1-9][0-9]{0,3}|[a-z]+|[(),+]", run)
        if not is_token or not goes_on(["F"], [*tokens, run]):
            return match.start()
        tokens.append(run)
    return None if is_whole(["F"], tokens) else len(text)


def spaced(chance, tokens):
    """The tokens with any number of spaces between them, none only where two do not become one."""
    text = " " * chance.randint(0, 2)
    for k, token in enumerate(tokens):
        are_joined = k > 0 and token.isalpha() and tokens[k - 1].isalpha()
        text += " " * chance.randint(1 if are_joined else 0, 2) + token
    return text + " " * chance.randint(0, 2)


def nested(many, inside="1 percent"):
    return "half of (" * many + inside + ")" * many


class ReadTest(Case):
    """[N1], [N2]: trees."""

    def test_example(self):
        self.same(read_formula("greater of(8 percent,12 per  kg)"), ("greater", ("percent", 8), ("kilo", 12)))

    def test_each_kind(self):
        rows = [("0 percent", ("percent", 0)), ("400percent", ("percent", 400)), ("9999per kg", ("kilo", 9999)),
                ("0 per kg", ("kilo", 0)), ("  7   percent  ", ("percent", 7)), ("401 per kg", ("kilo", 401)),
                ("half of (3 percent)", ("half", ("percent", 3))),
                ("less of (1 per kg, 2 percent)", ("less", ("kilo", 1), ("percent", 2))),
                ("1 percent+2 per kg+3 percent", ("sum", (("percent", 1), ("kilo", 2), ("percent", 3)))),
                ("half of(1 percent + 2 percent) + 3 percent",
                 ("sum", (("half", ("sum", (("percent", 1), ("percent", 2)))), ("percent", 3))))]
        for text, tree in rows:
            self.same(read_formula(text), tree)

    def test_random_trees(self):
        chance = random.Random(1)
        for _ in range(400):
            tree = some_tree(chance, 3)
            if told_leaves(tree) <= 24:
                for _ in range(3):
                    self.same(read_formula(spaced(chance, told_tokens(tree))), tree)

    def test_depth_of_6_and_of_7(self):
        self.same(depth(read_formula(nested(6))), 6)
        self.refused(TooLong, read_formula, nested(7))
        text = nested(6)
        self.same(depth(read_formula(f"{text} + greater of ({nested(5)}, {nested(1)})")), 6)
        self.refused(TooLong, read_formula, f"1 percent + greater of (1 percent, {nested(6)})")

    def test_24_leaves_and_25(self):
        terms = ["1 per kg"] * 25
        self.same(leaves(read_formula("+".join(terms[:24]))), 24)
        self.refused(TooLong, read_formula, "+".join(terms))
        pairs = ["less of (1 percent, 2 percent)"] * 12
        self.same(leaves(read_formula("+".join(pairs))), 24)
        self.refused(TooLong, read_formula, "+".join([*pairs, "5 per kg"]))

    def test_2000_characters_and_2001(self):
        text = "1 percent".ljust(2000)
        self.same(read_formula(text), ("percent", 1))
        self.refused(TooLong, read_formula, text + " ")
        self.refused(TooLong, read_formula, "x" * 2001)
        self.refused(BadFormula, read_formula, "x" * 2000, told={"position": 0})
        self.refused(BadFormula, read_formula, " " * 2000, told={"position": 2000})
        self.refused(BadFormula, read_formula, "1" * 2000, told={"position": 0})

    def test_what_goes_wrong_is_told_ahead_of_what_is_too_long(self):
        self.refused(BadFormula, read_formula, nested(7) + ")", told={"position": len(nested(7))})
        self.refused(BadFormula, read_formula, "+".join(["1 percent"] * 30) + "+", told={"position": 300})
        self.refused(BadFormula, read_formula, nested(7, "401 percent"), told={"position": 67})

    def test_many_brackets_within_one_another(self):
        self.refused(TooLong, read_formula, "half of(" * 200 + "1 percent" + ")" * 200)
        self.refused(BadFormula, read_formula, "half of(" * 250, told={"position": 2000})
        self.refused(BadFormula, read_formula, "half of(" * 200 + "1 percent" + ")" * 199, told={"position": 1808})


class PositionTest(Case):
    """[N3]: where texts go wrong."""

    def test_positions(self):
        rows = [("", 0), ("   ", 3), ("percent", 0), ("8", 1), ("8 ", 2), ("8 per", 5), ("8 perc", 2), ("8 percentage", 2),
                ("8 perkg", 2), ("8 per k", 6), ("8 per kgs", 6), ("8 percent 9", 10), ("8 percent + ", 12), ("+ 8 percent", 0),
                ("8 percent)", 9), ("8 percent,", 9), ("(8 percent)", 0), ("401 percent", 4), ("401 per", 7),
                ("401", 3), ("9999 percent", 5), ("10000 per kg", 0), ("08 percent", 0), ("00 percent", 0), ("8 percent + 00", 12),
                ("8 00", 2), ("8 Percent", 2), ("8 perCent", 5), ("8%", 1), ("8 percent\n", 9), ("\t8 percent", 0),
                ("8 percent -", 10), ("-8 percent", 0), ("8. percent", 1), ("\u0661 percent", 0), ("8 p\u00e9", 2),
                ("greater (8 percent", 8), ("greater of 8", 11), ("greater of (8 percent)", 21), ("half of (8 percent,", 18),
                ("greater of (1 percent, 2 percent, 3 percent)", 32), ("greater of (1 percent, 2 percent", 32),
                ("less of (1 percent + 2 per kg", 29), ("less of ()", 9), ("half of (1 percent))", 19), ("halfof (1 percent)", 0),
                ("greater of (8 percent, 12 per kg) 3", 34), ("sum", 0), ("of", 0), ("kg", 0), ("8 of", 2)]
        for text, position in rows:
            self.assertEqual(told_position(text), position, text)
            self.refused(BadFormula, read_formula, text, told={"position": position})

    def test_changed_texts(self):
        chance = random.Random(2)
        words = ["greater", "less", "half", "of", "percent", "per", "kg", "x", "(", ")", ",", "+", "0", "7", "400", "401",
                 "9999", "10000", "01", "-", "A"]
        wrong = 0
        for _ in range(2500):
            tree = some_tree(chance, 2)
            tokens = told_tokens(tree if told_leaves(tree) < 20 else ("kilo", 5))
            for _ in range(chance.randint(0, 2)):
                place = chance.randrange(len(tokens) + 1)
                tokens[place:place + chance.randint(0, 1)] = [chance.choice(words)] * chance.randint(0, 1)
            wrong += self.look_at(spaced(chance, tokens))
        self.assertGreater(wrong, 1000)

    def test_cut_texts(self):
        text = " greater of (12 percent + 3 per kg, half of (4 percent)) + 500 per kg"
        for stop in range(len(text) + 1):
            self.look_at(text[:stop])
            for character in " 0a+,()A":
                self.look_at(text[:stop] + character + text[stop:])

    def look_at(self, text):
        """1 if a text goes wrong, and where it should; 0 if it is read."""
        position = told_position(text)
        if position is None:
            read_formula(text)
            return 0
        self.refused(BadFormula, read_formula, text, told={"position": position})
        return 1


class WriteTest(Case):
    """[N4]: texts of trees, and [N2]: leaves and depths."""

    def test_texts(self):
        rows = ["8 percent", "12 per kg", "greater of (8 percent, 12 per kg)", "half of (1 percent + 2 per kg) + 3 percent",
                "less of (half of (0 percent), greater of (1 percent, 2 per kg))"]
        for text in rows:
            self.same(write_formula(read_formula(text)), text)
            self.same(write_formula(listed(read_formula(text.replace(" ", "  ")))), text)

    def test_random_trees(self):
        chance = random.Random(3)
        for _ in range(300):
            tree = some_tree(chance, 4)
            text = " ".join(told_tokens(tree)).replace(" )", ")").replace(" ,", ",").replace("( ", "(")
            self.same(write_formula(tree), text)
            self.same((leaves(tree), depth(tree)), (told_leaves(tree), told_depth(tree)))
            self.same((leaves(listed(tree)), depth(listed(tree))), (told_leaves(tree), told_depth(tree)))

    def test_depths(self):
        for text, wanted in (("1 percent", 0), ("1 percent + 2 per kg", 0), ("half of (1 percent + 2 percent)", 1),
                             ("1 percent + half of (less of (1 percent, 2 percent))", 2)):
            self.same(depth(read_formula(text)), wanted)


class DutyTest(Case):
    """[N5]: duties."""

    def test_example(self):
        self.same(duty(("percent", 8), 30, 3), (12, 5))

    def test_each_kind(self):
        rows = [("8 percent", 50, 7, (4, 1)), ("12 per kg", 50, 7, (84, 1)), ("1 percent + 2 per kg", 50, 3, (13, 2)),
                ("greater of (10 percent, 1 per kg)", 50, 7, (7, 1)), ("greater of (10 percent, 1 per kg)", 80, 7, (8, 1)),
                ("less of (10 percent, 1 per kg)", 50, 7, (5, 1)), ("less of (10 percent, 1 per kg)", 80, 7, (7, 1)),
                ("half of (3 percent)", 1, 0, (3, 200)), ("0 percent", 9, 9, (0, 1)), ("400 percent", 3, 0, (12, 1))]
        for text, value, weight, wanted in rows:
            self.same(duty(read_formula(text), value, weight), wanted)
            self.same(duty(listed(read_formula(text)), value, weight), wanted)
            self.same(duty(read_formula(text), 0, 0), (0, 1))

    def test_random_trees(self):
        chance = random.Random(4)
        for _ in range(300):
            tree = some_tree(chance, 4)
            for _ in range(5):
                value, weight = chance.choice((0, 7, 5000)), chance.choice((0, 1, 33))
                self.same(duty(tree, value, weight), pair(told_duty(tree, value, weight)))
