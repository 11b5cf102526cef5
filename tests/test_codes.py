"""[A1], [A2], [A3], [A5] and quaybest.codes."""

import itertools
import random
import re

from quaybest.codes import (BadCode, BadText, WrongDigit, is_assignable, parse, remainder, substitutions,
                            transpositions, undetected_pairs, with_check_digit)
from support import Case

LETTERS = "ABCDEFGHIJKLMNOPQRSTUVWXYZ"
DIGITS = "0123456789"
PLACES = [LETTERS] * 3 + ["JUZ"] + [DIGITS] * 7


def letter_values():
    """The numbers from 10 on that are not multiples of 11, in the order of the alphabet."""
    numbers = [number for number in range(10, 40) if number % 11]
    return dict(zip(LETTERS, numbers))


VALUES = dict({digit: int(digit) for digit in DIGITS}, **letter_values())


def told_remainder(body):
    return sum(VALUES[body[i]] * 2 ** i for i in range(10)) % 11


def told_valid(code):
    return (len(code) == 11 and all(code[i] in PLACES[i] for i in range(11))
            and int(code[10]) == told_remainder(code[:10]) % 10)


def some_bodies(seed, many):
    chance = random.Random(seed)
    return ["".join(chance.choice(PLACES[i]) for i in range(10)) for _ in range(many)]


def body_with(wanted):
    """A body with this remainder."""
    return next(body for body in some_bodies(7, 1000) if told_remainder(body) == wanted)


def code_of(body):
    return body + str(told_remainder(body) % 10)


class RemainderTest(Case):
    """[A2]: values and remainders."""

    def test_values_of_single_letters(self):
        for position in range(3):
            for letter in LETTERS:
                body = "A" * position + letter + "A" * (2 - position) + "U000000"
                self.same(remainder(body), told_remainder(body))

    def test_first_letters(self):
        zero = told_remainder("AAAU000000")
        self.assertEqual((letter_values()["A"], letter_values()["B"], letter_values()["Z"]), (10, 12, 38))
        self.assertEqual((remainder("BAAU000000") - zero) % 11, 2)

    def test_each_digit_at_each_place(self):
        for position in range(4, 10):
            for digit in DIGITS:
                body = ("ABCJ000000")[:position] + digit + "0" * (9 - position)
                self.assertEqual(remainder(body), told_remainder(body))

    def test_random_bodies(self):
        for body in some_bodies(1, 500):
            self.same(remainder(body), told_remainder(body))

    def test_all_remainders_occur(self):
        self.assertEqual({remainder(body) for body in some_bodies(2, 500)}, set(range(11)))

    def test_wrong_bodies(self):
        for body in ("", "CSQU30543", "CSQU3054383"):
            self.refused(BadCode, remainder, body, told={"reason": "length", "position": None})
        for position in range(10):
            for wrong in "a1?- \u0661A0":
                if wrong in PLACES[position]:
                    continue
                body = "CSQU305438"[:position] + wrong + "CSQU305438"[position + 1:]
                self.refused(BadCode, remainder, body, told={"reason": "character", "position": position})

    def test_first_wrong_character(self):
        self.refused(BadCode, remainder, "CsQX30x438", told={"reason": "character", "position": 1})
        self.refused(BadCode, remainder, "CSQX30x438", told={"reason": "character", "position": 3})

    def test_length_is_told_before_characters(self):
        self.refused(BadCode, remainder, "csqx", told={"reason": "length", "position": None})


class CheckDigitTest(Case):
    """[A1], [A3]: codes, valid and assignable ones."""

    def test_known_code(self):
        self.same(with_check_digit("CSQU305438"), "CSQU3054383")

    def test_every_remainder(self):
        for wanted in range(11):
            body = body_with(wanted)
            self.same(with_check_digit(body), body + str(wanted % 10))
            self.same(is_assignable(code_of(body)), wanted != 10)

    def test_remainder_of_ten_and_of_zero(self):
        self.assertEqual(with_check_digit(body_with(10))[-1], "0")
        self.assertEqual(with_check_digit(body_with(0))[-1], "0")

    def test_just_one_valid_code(self):
        for body in some_bodies(3, 50):
            for digit in DIGITS:
                if digit == with_check_digit(body)[10]:
                    self.assertEqual(is_assignable(body + digit), told_remainder(body) != 10)
                else:
                    self.refused(BadCode, is_assignable, body + digit, told={"reason": "digit", "position": None})

    def test_wrong_codes(self):
        for call in (is_assignable, substitutions, transpositions):
            self.refused(BadCode, call, "CSQU305438", told={"reason": "length", "position": None})
            self.refused(BadCode, call, "CSQU305438X", told={"reason": "character", "position": 10})
            self.refused(BadCode, call, "CSQA3054384", told={"reason": "character", "position": 3})
            self.refused(BadCode, call, "CSQU3054384", told={"reason": "digit", "position": None})

    def test_wrong_body_for_a_check_digit(self):
        self.refused(BadCode, with_check_digit, "CSQU3054383", told={"reason": "length", "position": None})
        self.refused(BadCode, with_check_digit, "CSQU30543A", told={"reason": "character", "position": 9})


PARTS = [" *"] + ["[A-Z]"] * 3 + ["[JUZ]", "[ -]?"] + ["[0-9]"] * 6 + ["[ -]?", "[0-9]"]


def told_position(text):
    """The greatest number of first characters that some text with a code begins with."""
    nested = ""
    for part in reversed(PARTS):
        nested = "(?:" + part + nested + ")?"
    return max(k for k in range(len(text) + 1) if re.fullmatch(nested, text[:k]))


class ParseTest(Case):
    """[A5]: texts that hold codes."""

    def test_forms(self):
        for text in ("CSQU3054383", "   CSQU3054383", "CSQU 3054383", "CSQU-3054383", "CSQU305438 3", "CSQU305438-3",
                     " CSQU-305438 3", "  CSQU 305438-3"):
            self.same(parse(text), "CSQU3054383")

    def test_valid_but_not_assignable(self):
        code = code_of(body_with(10))
        self.assertEqual(parse(code), code)

    def test_ends_too_early(self):
        for text in ("", "   ", "CSQ", "CSQU", "CSQU-", "CSQU 30543", "CSQU305438", "CSQU305438-"):
            self.refused(BadText, parse, text, told={"position": len(text)})

    def test_goes_wrong(self):
        for text, position in (("CSQU--3054383", 5), ("CSQU -3054383", 5), ("CSQU305438  3", 11), ("C SQU3054383", 1),
                               ("CSQU3 054383", 5), ("CSQU3054383 ", 11), ("CSQU30543839", 11), ("csqu3054383", 0),
                               ("CSQX3054383", 3), ("-CSQU3054383", 0), ("\tCSQU3054383", 0), (" CSQU\u0661", 5)):
            self.refused(BadText, parse, text, told={"position": position})

    def test_other_separators(self):
        for other in "xX_./+\t\n?":
            self.refused(BadText, parse, "CSQU" + other + "3054383", told={"position": 4})
            self.refused(BadText, parse, "CSQU305438" + other + "3", told={"position": 10})

    def test_wrong_digit(self):
        for body in some_bodies(4, 30):
            right = told_remainder(body) % 10
            for digit in range(10):
                text = " " + body[:4] + "-" + body[4:] + " " + str(digit)
                if digit == right:
                    self.assertEqual(parse(text), body + str(right))
                else:
                    self.refused(WrongDigit, parse, text, told={"digit": right})

    def test_text_is_looked_at_before_the_digit(self):
        self.refused(BadText, parse, "CSQU3054384 ", told={"position": 11})

    def test_random_texts(self):
        chance = random.Random(5)
        for _ in range(3000):
            text = list(chance.choice(["CSQU3054383", " CSQU-305438 3", "  CSQU 305438-3"]))
            for _ in range(chance.randint(0, 2)):
                place = chance.randrange(len(text) + 1)
                text[place:place + chance.randint(0, 1)] = chance.choice(["", " ", "-", "A", "J", "7", "?"])
            text = "".join(text)
            whole = re.fullmatch("".join(PARTS), text)
            bare = text.replace(" ", "").replace("-", "")
            if not whole:
                self.refused(BadText, parse, text, told={"position": told_position(text)})
            elif told_valid(bare):
                self.assertEqual(parse(text), bare)
            else:
                self.refused(WrongDigit, parse, text, told={"digit": told_remainder(bare[:10]) % 10})


class MisreadTest(Case):
    """What a check digit overlooks."""

    def codes(self):
        return ["CSQU3054383", code_of(body_with(10)), code_of(body_with(0))] + [code_of(b) for b in some_bodies(6, 60)]

    def test_substitutions(self):
        for code in self.codes():
            wanted = [code[:i] + c + code[i + 1:] for i in range(11) for c in PLACES[i]]
            wanted = sorted(text for text in wanted if text != code and told_valid(text))
            self.same(substitutions(code), tuple(wanted))

    def test_substitutions_between_remainders_of_ten_and_zero(self):
        found = substitutions(code_of(body_with(10)))
        self.assertTrue([code for code in found if told_remainder(code[:10]) == 0])

    def test_transpositions(self):
        seen = 0
        for code in self.codes() + [code_of(body) for body in some_bodies(8, 400)]:
            wanted = []
            for i in range(10):
                first, second = code[i], code[i + 1]
                text = code[:i] + second + first + code[i + 2:]
                if first != second and first.isalpha() == second.isalpha() and told_valid(text):
                    wanted.append(text)
            seen += len(wanted)
            self.same(transpositions(code), tuple(wanted))
        self.assertGreater(seen, 0)

    def test_transpositions_at_every_place(self):
        places = set()
        for code in [code_of(body) for body in some_bodies(9, 3000)]:
            wanted = [code[:i] + code[i + 1] + code[i] + code[i + 2:] for i in (0, 1, 2, 4, 5, 6, 7, 8, 9)]
            found = tuple(text for text in wanted if text != code and told_valid(text))
            places |= {next(i for i in range(11) if text[i] != code[i]) for text in found}
            self.assertEqual(transpositions(code), found)
        # J, U and Z at positions 2 and 3 are never exchanged without a trace.
        self.assertEqual(places, {0, 1, 4, 5, 6, 7, 8, 9})

    def test_undetected_pairs(self):
        bodies = some_bodies(10, 20)
        for position in range(10):
            wanted = []
            for first, second in itertools.combinations(sorted(PLACES[position]), 2):
                texts = [(b[:position] + first + b[position + 1:], b[:position] + second + b[position + 1:])
                         for b in bodies]
                if all(told_remainder(one) == told_remainder(other) for one, other in texts):
                    wanted.append(first + second)
            self.same(undetected_pairs(position), tuple(wanted))
        self.assertIn("AK", undetected_pairs(0))

    def test_undetected_pairs_elsewhere(self):
        for position in (-11, -1, 10, 11, 99):
            self.same(undetected_pairs(position), ())
