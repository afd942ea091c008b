import random
import re
import unittest

from drawn_tables import choices, drawn_tables
from helpers import Cases

from timesagain.errors import BadText
from timesagain.tables import Table, chosen, constant, place_table

DIGITS = "9" * 60
BENT = [
    "", "x", ":", "/", "0", "1", "3", "4", "00", "-1", "1:", ":1", "1:1", "1:0", "0:0", "0:1", "2:1", "01:1", "1:01",
    "1:1.", "1:.1", "1:1.0", "1:0.1", "1:1.1", "1:0.0", "1.1", "1:1:1", "1::1", "1:60", "1:61", "1:60.0", "1:0.61",
    "1:0.0.0", "1:1.1.1", "1:0.0.0.0", "+1:1", "1:+1", "-1:1", "1:-1", "1_0:1", " ", "1:1 ", "1: 1", "\u0661:1",
    "1:\u0661", "1:a", "a:1", "1/1", "::", "9" * 60, "9" * 61, "9" * 60 + ":0", "9" * 61 + ":0", "1:" + "1" * 61,
    "9" * 60 + ":", "9" * 61 + ":", "1,1", "None", "True:1", "1\n", "\n",
]
NUMBER = re.compile(r"0|[1-9][0-9]{0,59}")


def term(choice, item):
    """The powers that an item tells, of a term of this choice; None for what tells none."""
    found = re.fullmatch(r"([0-9]*):([0-9.]*)", item)
    if not found or not NUMBER.fullmatch(found.group(1)) or found.group(1) == "0":
        return None
    words = found.group(2).split(".") if found.group(2) else []
    if len(words) != len(choice) or not all(NUMBER.fullmatch(word) for word in words):
        return None
    powers = [int(word) for word in words]
    return powers if all(power <= 60 * sign for power, sign in zip(powers, choice)) else None


def first_wrong(text):
    """The item at which a text is no table's, as the document tells it; None for a table's text."""
    items = text.split(" ")
    if items[0] not in "0123" or len(items[0]) != 1:
        return 0
    rows = choices(int(items[0]))
    ahead = ""
    at = -1
    for index, item in enumerate(items[1:], start=1):
        mark = index == 1 or (item == "/" and ahead not in ("", "/", ":"))
        if mark:
            if item != (":" if index == 1 else "/") or at + 1 == len(rows):
                return index
            at += 1
        elif item == "0":
            if ahead not in (":", "/"):
                return index
        else:
            powers = term(rows[at], item)
            later = ahead in (":", "/") or (ahead != "0" and powers and term(rows[at], ahead) < powers)
            if powers is None or not later:
                return index
        ahead = item
    return len(items) if ahead in ("", ":", "/") or at + 1 < len(rows) else None


class Texts(Cases):
    def check(self, text):
        """The text is read, or refused at just the item."""
        item = first_wrong(text)
        if item is None:
            self.answers(str(Table.read(text)), text)
        else:
            self.refuses(BadText, [0, item], Table.read, text)

    def tables(self):
        draw = random.Random(131)
        for many in range(4):
            yield from drawn_tables(draw, many, 8, count=3, power=60, share=10 ** 60 - 1)
            yield from drawn_tables(draw, many, 4, count=3, power=2, share=3)
            yield constant(many, 0)

    def test_told_ones(self):
        for table, text in (
            (constant(0, 0), "0 : 0"), (constant(0, 12), "0 : 12:"), (constant(1, 0), "1 : 0 / 0"),
            (constant(1, 3), "1 : 3:0 / 3:0"), (place_table(1, 0), "1 : 0 / 1:1"),
            (place_table(3, 1), "3 : 0 / 0 / 1:0.1.0 / 1:0.1.0 / 0 / 0 / 1:0.1.0 / 1:0.1.0"),
            (Table(1, [[], [((0,), 9), ((9,), 1), ((10,), 10)]]), "1 : 0 / 9:0 1:9 10:10"),
            (chosen(0, constant(2, 1), place_table(2, 1)), "2 : 1:0.0 / 1:0.0 / 0 / 1:0.1"),
            (constant(0, int(DIGITS)), "0 : " + DIGITS + ":"),
        ):
            self.answers(str(table), text)
            self.assertEqual(Table.read(text), table)

    def test_read_again(self):
        for table in self.tables():
            again = Table.read(text=str(table))
            self.answers([again.many, again.rows], [table.many, table.rows])
            self.assertIsNone(first_wrong(str(table)))

    def test_cut_off(self):
        for table in self.tables():
            items = str(table).split(" ")
            for count in range(1, len(items)):
                self.check(" ".join(items[:count]))

    def test_an_item_more(self):
        for table in self.tables():
            items = str(table).split(" ")
            for at in range(len(items) + 1):
                for item in ("", "0", "/", ":", "1:1", "1:0", "1:", "x", items[0], items[at - 1]):
                    self.check(" ".join(items[:at] + [item] + items[at:]))

    def test_an_item_bent(self):
        for table in self.tables():
            items = str(table).split(" ")
            for at in range(len(items)):
                for item in BENT:
                    self.check(" ".join(items[:at] + [item] + items[at + 1:]))

    def test_terms_exchanged_and_twice(self):
        for table in self.tables():
            items = str(table).split(" ")
            for at in range(2, len(items) - 1):
                self.check(" ".join(items[:at] + [items[at + 1], items[at]] + items[at + 2:]))
                self.check(" ".join(items[:at + 1] + items[at:]))
                self.check(" ".join(items[:at] + items[at + 1:]))

    def test_refused(self):
        for text, item in (
            ("", 0), (" ", 0), ("4 : 0", 0), ("01 : 0 / 0", 0), (" 0 : 0", 0), ("x", 0), (": 0", 0), ("-1 : 0", 0),
            ("\u0661 : 0 / 0", 0), ("0", 1), ("0 ", 1), ("0 0", 1), ("0  : 0", 1), ("0 / 0", 1), ("1:0 / 0", 0),
            ("0 :", 2), ("0 : ", 2), ("0 : /", 2), ("0 : 0 ", 3), ("0 : 0 0", 3), ("0 : 0 /", 3), ("0 : 0 3:", 3),
            ("0 : 3: 0", 3), ("0 : 3: 4:", 3), ("0 : 3", 2), ("0 : 0:", 2), ("0 : 3:0", 2), ("0 : 3:.", 2),
            ("0 : 03:", 2), ("1 : 0 /", 4), ("1 : 0 / /", 4), ("1 : 0 / 0 /", 5), ("1 : 0 0", 3), ("1 : 0 : 0", 3),
            ("1 : 3:0 3:0", 3), ("1 : 3:1 / 0", 2), ("1 : 0 / 2:1 3:0", 5), ("1 : 0 / 2:1 3:1", 5), ("1 : 0", 3),
            ("1 : 0 / 2:1 0", 5), ("1 : 0 / 0 2:1", 5), ("1 : 0 / 2:1 2:02", 5), ("1 : 0 / 2:1 2:61", 5),
            ("1 : 0 / 2:9 2:10 1:60", None), ("2 : 0 / 0 / 0", 7), ("2 : 0 / 1:1.0 / 0 / 0", 4),
            ("2 : 0 / 0 / 1:0.1 / 0", 6), ("2 : 0 / 0 / 0 / 1:1.0 1:0.9", 9), ("2 : 0 / 0 / 0 / 1:0.9 1:1.0", None),
            ("1 : 0 / " + DIGITS + ":1", None), ("1 : 0 / 1" + DIGITS + ":1", 4), ("0 : 0\n", 2), ("0 :\n0", 1),
        ):
            with self.subTest(text=text):
                self.answers(first_wrong(text), item)
                self.check(text)

    def test_no_strings(self):
        for value in (None, True, 0, 1, b"0 : 0", ["0", ":", "0"], ("0 : 0",), {}, object(), constant(0, 0), 1.5):
            self.refuses(BadText, [0, 0], Table.read, value)

    def test_text_as_told(self):
        self.answers(str(constant(0, 0)), f"{constant(0, 0)}")


if __name__ == "__main__":
    unittest.main()
