"""Container codes: their form, their check digits, and what a check digit overlooks."""

from quaybest.errors import QuayError

LETTERS = "ABCDEFGHIJKLMNOPQRSTUVWXYZ"
DIGITS = "0123456789"
# Each character stands at its value; hyphens stand at the multiples of 11, which no letter has.
BY_VALUE = "0123456789A-BCDEFGHIJK-LMNOPQRSTU-VWXYZ"
WEIGHTS = (1, 2, 4, 8, 16, 32, 64, 128, 256, 512)


class BadCode(QuayError):
    """A text is not the body, the prefix or the code that it should be."""

    def __init__(self, reason, position):
        self.reason = reason
        self.position = position


class BadText(QuayError):
    """A text holds no code."""

    def __init__(self, position):
        self.position = position


class WrongDigit(QuayError):
    """A text holds a code with a wrong check digit."""

    def __init__(self, digit):
        self.digit = digit


def allowed_at(position):
    """The characters, ascending, that a code can have at a position."""
    if position < 3:
        return LETTERS
    if position == 3:
        return "JUZ"
    return DIGITS


def weighed(text):
    """The sum of [A2] over the first characters of a body, modulo 11."""
    total = 0
    for position, character in enumerate(text):
        total += BY_VALUE.find(character) * WEIGHTS[position]
    return total % 11


def check_form(text, length):
    """Raise BadCode unless the text can be the first characters, so many, of a code."""
    if len(text) != length:
        raise BadCode("length", None)
    for position, character in enumerate(text):
        if character not in allowed_at(position):
            raise BadCode("character", position)


def has_right_digit(code):
    """True if the check digit of a code is the right one."""
    return int(code[10]) == weighed(code[:10]) % 10


def check_valid(code):
    """Raise BadCode unless the text is a valid code."""
    check_form(code, 11)
    if not has_right_digit(code):
        raise BadCode("digit", None)


def check_assignable(code):
    """Raise BadCode unless the text is an assignable code."""
    check_valid(code)
    if weighed(code[:10]) == 10:
        raise BadCode("assignable", None)


def remainder(body):
    """The remainder of a body."""
    check_form(body, 10)
    return weighed(body)


def with_check_digit(body):
    """The valid code of a body."""
    return body + str(remainder(body) % 10)


def is_assignable(code):
    """True if a valid code is assignable."""
    check_valid(code)
    return weighed(code[:10]) != 10


def parse(text):
    """The code that a text holds."""
    at = 0
    while at < len(text) and text[at] == " ":
        at += 1
    code = ""
    for position in range(11):
        if position in (4, 10) and at < len(text) and text[at] in " -":
            at += 1
        if at == len(text) or text[at] not in allowed_at(position):
            raise BadText(at)
        code += text[at]
        at += 1
    if at < len(text):
        raise BadText(at)
    if not has_right_digit(code):
        raise WrongDigit(weighed(code[:10]) % 10)
    return code


def substitutions(code):
    """The valid codes that differ from a valid one at exactly one position, ascending."""
    check_valid(code)
    found = []
    # Another check digit alone never makes a valid code, so position 10 is left out.
    for position in range(10):
        for character in allowed_at(position):
            changed = code[:position] + character + code[position + 1:]
            if changed != code and has_right_digit(changed):
                found.append(changed)
    return tuple(sorted(found))


def transpositions(code):
    """The valid codes that come of exchanging two different neighbours of one kind."""
    check_valid(code)
    found = []
    for position in range(10):
        changed = code[:position] + code[position + 1] + code[position] + code[position + 2:]
        # A digit at position 3, or another letter than J, U and Z, makes no code.
        if changed != code and changed[3] in allowed_at(3) and has_right_digit(changed):
            found.append(changed)
    return tuple(found)


def undetected_pairs(position):
    """The pairs of characters of which one can stand for the other without a trace."""
    if position < 0 or position > 9:
        return ()
    characters = allowed_at(position)
    # Every weight has an inverse modulo 11, so the values alone decide.
    return tuple([first + second for first in characters for second in characters
                  if first < second and weighed(first) == weighed(second)])
