"""[M1], [M2], [M8] and quaybest.messages."""

import itertools
import random
import re

from quaybest.messages import BadLine, BadMessage, check_message, read_message, write_message
from support import Case, listed

ARRIVAL = ("arrive", 1, 10, "TEA", 300, "entry")
MOVE = ("move", 2, 20, "TEA", 200, "entry", "bond")
VOID = ("void", 3)
NUMBER = "[1-9][0-9]{0,3}"
TIME = "(?:0|[1-9][0-9]{0,4}|100000)"
GOODS = "(?:[1-9][0-9]{0,5}|1000000) [A-Z0-9]{1,12}"
STATE = "[a-z]{1,8}"
LINE = re.compile(f"void {NUMBER}|{NUMBER}: at {TIME} (?:arrive {GOODS}|move {GOODS} from {STATE}) to {STATE}")
# A text can go on to a line if it can with the end of one of these.
SHORTEST = ("void 1", "1: at 1 arrive 1 A to a", "1: at 1 move 1 A from a to a")
ENDS = sorted({line[start:] for line in SHORTEST for start in range(len(line) + 1)})


def can_go_on(text):
    return any(LINE.fullmatch(text + end) for end in ENDS)


def told_position(text):
    """Where a text goes wrong, by [M8]; None for a line."""
    if LINE.fullmatch(text):
        return None
    return next((k for k in range(len(text)) if not can_go_on(text[:k + 1])), len(text))


def changed(message, **parts):
    """The message with other parts, told by their places (p1=..)."""
    row = list(message)
    for name, value in parts.items():
        row[int(name[1:])] = value
    return tuple(row)


class CheckTest(Case):
    """[M1], [M2]: what is a message."""

    def test_messages(self):
        for message in (ARRIVAL, MOVE, VOID, listed(ARRIVAL), listed(MOVE), listed(VOID)):
            self.same(check_message(message), None)

    def test_kind_and_length(self):
        for message in ((), [], ("arrives", 1), ("", 1), ("Arrive",), ("voi", 1), ("acts", 0, -1)):
            self.refused(BadMessage, check_message, message, told={"reason": "kind"})
        for message in (ARRIVAL, MOVE, VOID):
            for wrong in (message[:1], message[:-1], (*message, "bond"), [*message, 1, 2]):
                self.refused(BadMessage, check_message, wrong, told={"reason": "length"})

    def test_numbers(self):
        for message in (ARRIVAL, MOVE, VOID):
            for number in (1, 2, 9998, 9999):
                check_message(changed(message, p1=number))
            for number in (0, -1, 10000):
                self.refused(BadMessage, check_message, changed(message, p1=number), told={"reason": "number"})

    def test_times_and_kilos(self):
        for message in (ARRIVAL, MOVE):
            for time in (0, 1, 100000):
                check_message(changed(message, p2=time))
            for time in (-1, 100001):
                self.refused(BadMessage, check_message, changed(message, p2=time), told={"reason": "time"})
            for kilos in (1, 1000000):
                check_message(changed(message, p4=kilos))
            for kilos in (0, -1, 1000001):
                self.refused(BadMessage, check_message, changed(message, p4=kilos), told={"reason": "kilos"})

    def test_items(self):
        for message in (ARRIVAL, MOVE):
            for item in ("A", "Z", "0", "9", "A1B2C3D4E5F6", "000000000000"):
                check_message(changed(message, p3=item))
            for item in ("", "A1B2C3D4E5F6G", "a", "TEa", "T A", "T-A", "TE\u00c4", "\u0661", "@", "[", "/", ":", "TEA\n"):
                self.refused(BadMessage, check_message, changed(message, p3=item), told={"reason": "item"})

    def test_states(self):
        places = [(ARRIVAL, "p5"), (MOVE, "p5"), (MOVE, "p6")]
        for message, place in places:
            for state in ("a", "z", "abcdefgh", "from", "to"):
                check_message(changed(message, **{place: state}))
            for state in ("", "abcdefghi", "A", "freE", "free1", "free ", "\u00e4", "`", "{", "a\n"):
                self.refused(BadMessage, check_message, changed(message, **{place: state}), told={"reason": "state"})
        check_message(changed(MOVE, p5="bond", p6="bond"))

    def test_first_reason(self):
        reasons = [("number", "p1", 0), ("time", "p2", -1), ("item", "p3", ""), ("kilos", "p4", 0), ("state", "p5", "")]
        for many in range(1, 6):
            for wrong in itertools.combinations(reasons, many):
                for message in (ARRIVAL, MOVE):
                    row = changed(message, **{place: value for _, place, value in wrong})
                    self.refused(BadMessage, check_message, row, told={"reason": wrong[0][0]})
                    self.refused(BadMessage, write_message, row, told={"reason": wrong[0][0]})
                    self.refused(BadMessage, check_message, row[:-1], told={"reason": "length"})


class LineTest(Case):
    """[M8]: lines."""

    def test_example(self):
        self.same(write_message(MOVE), "2: at 20 move 200 TEA from entry to bond")

    def test_lines(self):
        for message, line in ((ARRIVAL, "1: at 10 arrive 300 TEA to entry"), (VOID, "void 3"),
                              (changed(ARRIVAL, p1=9999, p2=0, p4=1000000), "9999: at 0 arrive 1000000 TEA to entry"),
                              (changed(MOVE, p2=100000, p3="0", p5="to", p6="from"),
                               "2: at 100000 move 200 0 from to to from"), (("void", 9999), "void 9999")):
            self.same(write_message(message), line)
            self.same(write_message(listed(message)), line)
            self.same(read_message(line), message)

    def test_written_wrong(self):
        self.refused(BadMessage, write_message, (), told={"reason": "kind"})
        self.refused(BadMessage, write_message, ("void",), told={"reason": "length"})
        self.refused(BadMessage, write_message, ("void", 10000), told={"reason": "number"})

    def test_positions(self):
        rows = [("", 0), ("0", 0), ("1", 1), ("10000", 4), ("9999", 4), ("x", 0), ("v", 1), ("void", 4), ("void ", 5),
                ("void 0", 5), ("void 10", None), ("void 1 ", 6), ("void 10000", 9), ("void  1", 5), (" void 1", 0),
                ("void 1: at", 6), ("1:at", 2), ("1: at 01", 7), ("1: at 0", 7), ("1: at 100001", 11),
                ("1: at 1000000", 12), ("1: at 99999 arrived", 18), ("1: at 5 moves", 12), ("1: at 5 x", 8),
                ("1: at 5 arrive 0", 15), ("1: at 5 arrive 1000001", 21), ("1: at 5 arrive 1 tea", 17),
                ("1: at 5 arrive 1 TEA  to", 21), ("1: at 5 arrive 1 ABCDEFGHIJKLM", 29), ("1: at 5 arrive 1 TEA from", 21),
                ("1: at 5 move 1 TEA to", 19), ("1: at 5 arrive 1 TEA to abcdefghi", 32),
                ("1: at 5 arrive 1 TEA to a ", 25), ("1: at 5 arrive 1 TEA to A", 24), ("1: at 5 arrive 1 TEA to ", 24),
                ("1: at 5 move 1 TEA from a to", 28), ("1: at 5 move 1 TEA from a tob", 28),
                ("1: at 5 move 1 TEA from a to b", None), ("1: at 5 move 1 TEA from a to b\n", 30),
                ("\u0661: at 5", 0), ("1: at -5", 6), ("void 3\n", 6), ("voidx", 4), ("1: at 5 arrive 1 TEA too", 23)]
        for text, position in rows:
            self.assertEqual(told_position(text), position, text)
            if position is None:
                read_message(text)
            else:
                self.refused(BadLine, read_message, text, told={"position": position})

    def test_each_start_of_a_line(self):
        for message in (ARRIVAL, MOVE, VOID, changed(MOVE, p1=9999, p2=100000, p4=1000000)):
            line = write_message(message)
            for stop in range(len(line)):
                self.look_at(line[:stop])
                for character in "019 :aAvtx-\u00e4":
                    self.look_at(line[:stop] + character + line[stop:])
                    self.look_at(line[:stop] + character + line[stop + 1:])
                self.look_at(line[:stop] + line[stop + 1:])

    def test_random_texts(self):
        chance = random.Random(1)
        words = ["0", "1", "25", "9999", "10000", "100000", "100001", "1000000", ":", " at ", " ", "arrive ", "move ",
                 "TEA", "ABCDEFGHIJKL", " from ", " to ", "free", "abcdefgh", "void ", "a", "A"]
        for _ in range(3000):
            self.look_at("".join(chance.choice(words) for _ in range(chance.randint(1, 9))))

    def look_at(self, text):
        """What is read is what the line says; what goes wrong does so where it should."""
        position = told_position(text)
        if position is None:
            message = read_message(text)
            self.assertIs(message.__class__, tuple)
            check_message(message)
            self.same(write_message(message), text)
        else:
            self.refused(BadLine, read_message, text, told={"position": position})
