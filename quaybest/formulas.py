"""Formulas of tariffs: their texts, their trees, and the duties that they give."""

from quaybest.codes import DIGITS
from quaybest.errors import QuayError
from quaybest.fractions import added, fraction, is_less
from quaybest.messages import SMALL_LETTERS

MOST_CHARACTERS = 2000
MOST_DEPTH = 6
MOST_LEAVES = 24
LONGEST_NUMBER = 4
MOST_PERCENT = 400
SIGNS = "(),+"
# How many formulas stand in the brackets behind each of these words.
PARTS = {"greater": 2, "less": 2, "half": 1}


class BadFormula(QuayError):
    """A text is no formula."""

    def __init__(self, position):
        self.position = position


class TooLong(QuayError):
    """A formula has more characters, depth or leaves than it may have."""


def run_length(text, start, characters):
    """How many of these characters stand in a row from a position on."""
    stop = start
    while stop < len(text) and text[stop] in characters:
        stop += 1
    return stop - start


def is_number(token):
    """True if a run of digits is a number: one up to 9999 without leading zeros."""
    return token == "0" or (token[0] != "0" and len(token) <= LONGEST_NUMBER)


def token_at(text, start):
    """The token that begins at a position, "" if none does."""
    if text[start] in SIGNS:
        return text[start]
    digits = text[start:start + run_length(text, start, DIGITS)]
    if digits:
        return digits if is_number(digits) else ""
    return text[start:start + run_length(text, start, SMALL_LETTERS)]


class TokenReader:
    """Goes through the tokens of a text, and raises BadFormula at what cannot stand where it does."""

    def __init__(self, text):
        self.text = text
        self.at = run_length(text, 0, " ")

    def is_done(self):
        """True if nothing follows."""
        return self.at == len(self.text)

    def following(self):
        """The next token, "" at the end and where no token begins."""
        return "" if self.is_done() else token_at(self.text, self.at)

    def skip(self, token):
        """Go on behind a token that stands here."""
        self.at += len(token)
        self.at += run_length(self.text, self.at, " ")

    def take(self, allowed):
        """Go on behind the next token, which has to be one of a tuple; return it."""
        token = self.following()
        if token not in allowed:
            raise BadFormula(self.at)
        self.skip(token)
        return token

    def leaf(self):
        """The leaf that stands here."""
        token = self.following()
        if not token or token[0] not in DIGITS:
            raise BadFormula(self.at)
        self.skip(token)
        number = int(token)
        if self.take(("percent", "per") if number <= MOST_PERCENT else ("per",)) == "percent":
            return ("percent", number)
        self.take(("kg",))
        return ("kilo", number)


class OpenTerm:
    """A term whose brackets are open, or, without a word, the whole text."""

    def __init__(self, word):
        self.word = word
        # The formulas in the brackets that are read, and the terms of the one that is being read.
        self.parts = []
        self.terms = []

    def signs(self):
        """The signs that can stand behind a term of the formula that is being read."""
        if not self.word:
            return ("+",)
        return ("+", ",") if len(self.parts) + 1 < PARTS[self.word] else ("+", ")")

    def end_part(self):
        """The formula that is being read ends."""
        self.parts.append(self.terms[0] if len(self.terms) == 1 else ("sum", tuple(self.terms)))
        self.terms = []


def end_terms(reader, open_terms):
    """Go on behind a term to where the next one begins, and close the terms that end there; True at the end."""
    while open_terms[-1].word or not reader.is_done():
        inner = open_terms[-1]
        sign = reader.take(inner.signs())
        if sign == "+":
            return False
        inner.end_part()
        if sign == ",":
            return False
        open_terms.pop()
        open_terms[-1].terms.append((inner.word, *inner.parts))
    open_terms[0].end_part()
    return True


def parsed(text):
    """The tree of a text, its depth and the number of its leaves."""
    # Texts can have far more brackets within one another than calls should have: so the open ones stand in a list.
    reader = TokenReader(text)
    open_terms = [OpenTerm("")]
    deepest = 0
    many = 0
    is_done = False
    while not is_done:
        word = reader.following()
        if word in PARTS:
            for token in (word, "of", "("):
                reader.take((token,))
            open_terms.append(OpenTerm(word))
            deepest = max(deepest, len(open_terms) - 1)
        else:
            open_terms[-1].terms.append(reader.leaf())
            many += 1
            is_done = end_terms(reader, open_terms)
    return open_terms[0].parts[0], deepest, many


def read_formula(text):
    """The tree of a formula."""
    if len(text) > MOST_CHARACTERS:
        raise TooLong("a formula has at most 2000 characters")
    tree, deepest, many = parsed(text)
    if deepest > MOST_DEPTH or many > MOST_LEAVES:
        raise TooLong("a formula has a depth of at most 6 and at most 24 leaves")
    return tree


def parts_of(tree):
    """The trees of which a tree is made; none for a leaf."""
    if tree[0] == "sum":
        return tree[1]
    return tree[1:] if tree[0] in PARTS else ()


def leaves(tree):
    """The number of leaves."""
    parts = parts_of(tree)
    return sum([leaves(part) for part in parts]) if parts else 1


def depth(tree):
    """How deep terms other than leaves and sums stand within one another."""
    deepest = max([0, *[depth(part) for part in parts_of(tree)]])
    return deepest + 1 if tree[0] in PARTS else deepest


def write_formula(tree):
    """The text of a tree."""
    if tree[0] == "percent":
        return f"{tree[1]} percent"
    if tree[0] == "kilo":
        return f"{tree[1]} per kg"
    texts = [write_formula(part) for part in parts_of(tree)]
    if tree[0] == "sum":
        return " + ".join(texts)
    return tree[0] + " of (" + ", ".join(texts) + ")"


def duty(tree, value, weight):
    """The duty of a value and a weight."""
    if tree[0] == "percent":
        return fraction(tree[1] * value, 100)
    if tree[0] == "kilo":
        return fraction(tree[1] * weight)
    duties = [duty(part, value, weight) for part in parts_of(tree)]
    if tree[0] == "half":
        return fraction(duties[0][0], 2 * duties[0][1])
    if tree[0] == "sum":
        total = fraction(0)
        for share in duties:
            total = added(total, share)
        return total
    if is_less(duties[0], duties[1]):
        duties = duties[::-1]
    return duties[0] if tree[0] == "greater" else duties[1]
