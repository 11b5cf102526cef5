"""Customs messages: arrivals, moves and voids, and the lines in which they are written."""

from quaybest.codes import DIGITS
from quaybest.errors import QuayError

SMALL_LETTERS = "abcdefghijklmnopqrstuvwxyz"
ITEM_CHARACTERS = "ABCDEFGHIJKLMNOPQRSTUVWXYZ0123456789"
LAST_NUMBER = 9999
LAST_TIME = 100000
MOST_KILOS = 1000000
LONGEST_STATE = 8
LONGEST_ITEM = 12
# How many parts the messages of each kind have.
LENGTHS = {"arrive": 6, "move": 7, "void": 2}


class BadMessage(QuayError):
    """A message is not as it should be."""

    def __init__(self, reason):
        self.reason = reason


class BadLine(QuayError):
    """A text is not the line of a message."""

    def __init__(self, position):
        self.position = position


def is_word(text, characters, most):
    """True if a text has from 1 to so many characters, and only these."""
    return 1 <= len(text) <= most and all([character in characters for character in text])


def is_state(text):
    """True if a text can be a state."""
    return is_word(text, SMALL_LETTERS, LONGEST_STATE)


def check_act(message):
    """Raise BadMessage with the first reason for which an arrival or a move is wrong behind its number."""
    if message[2] < 0 or message[2] > LAST_TIME:
        raise BadMessage("time")
    if not is_word(message[3], ITEM_CHARACTERS, LONGEST_ITEM):
        raise BadMessage("item")
    if message[4] < 1 or message[4] > MOST_KILOS:
        raise BadMessage("kilos")
    if not all([is_state(state) for state in message[5:]]):
        raise BadMessage("state")


def check_message(message):
    """Raise BadMessage with the first reason for which a message is wrong."""
    if not message or message[0] not in LENGTHS:
        raise BadMessage("kind")
    if len(message) != LENGTHS[message[0]]:
        raise BadMessage("length")
    if message[1] < 1 or message[1] > LAST_NUMBER:
        raise BadMessage("number")
    if message[0] != "void":
        check_act(message)


def write_message(message):
    """The line of a message."""
    check_message(message)
    if message[0] == "void":
        return f"void {message[1]}"
    start = f"{message[1]}: at {message[2]} {message[0]} {message[4]} {message[3]}"
    if message[0] == "arrive":
        return f"{start} to {message[5]}"
    return f"{start} from {message[5]} to {message[6]}"


class LineReader:
    """Goes through a text from its start, and raises BadLine at the first character with which no line goes on."""

    def __init__(self, text):
        self.text = text
        self.at = 0

    def following(self):
        """The next character, "" behind the last one."""
        return self.text[self.at:self.at + 1]

    def pass_text(self, wanted):
        """Go on behind a text that has to stand here."""
        for character in wanted:
            if self.following() != character:
                raise BadLine(self.at)
            self.at += 1

    def pass_end(self):
        """Nothing may follow."""
        if self.following():
            raise BadLine(self.at)

    def number(self, least, greatest):
        """The number that stands here, at least 0 or 1, without leading zeros."""
        found = ""
        while self.following() and self.following() in DIGITS:
            longer = found + self.following()
            if found == "0" or int(longer) < least or int(longer) > greatest:
                raise BadLine(self.at)
            found = longer
            self.at += 1
        if not found:
            raise BadLine(self.at)
        return int(found)

    def word(self, characters, most):
        """The word of at most so many of these characters that stands here."""
        start = self.at
        while self.following() and self.following() in characters:
            if self.at - start == most:
                raise BadLine(self.at)
            self.at += 1
        if self.at == start:
            raise BadLine(self.at)
        return self.text[start:self.at]

    def act(self):
        """The arrival or the move that stands here."""
        number = self.number(1, LAST_NUMBER)
        self.pass_text(": at ")
        time = self.number(0, LAST_TIME)
        self.pass_text(" ")
        kind = "move" if self.following() == "m" else "arrive"
        self.pass_text(kind + " ")
        kilos = self.number(1, MOST_KILOS)
        self.pass_text(" ")
        item = self.word(ITEM_CHARACTERS, LONGEST_ITEM)
        states = []
        for preposition in ("from", "to") if kind == "move" else ("to",):
            self.pass_text(f" {preposition} ")
            states.append(self.word(SMALL_LETTERS, LONGEST_STATE))
        return (kind, number, time, item, kilos, *states)


def read_message(text):
    """The message of a line."""
    reader = LineReader(text)
    if reader.following() == "v":
        reader.pass_text("void ")
        message = ("void", reader.number(1, LAST_NUMBER))
    else:
        message = reader.act()
    reader.pass_end()
    return message
