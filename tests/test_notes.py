"""Webs as texts (point 10)."""

import unittest

from fencewright.errors import BadWeb, NoText
from fencewright.notes import read, shown
from samples import (CROSS, CROSS_OF_THREE, EIGHT_IN_ONE, EIGHTS_OVER_THREE, EIGHTS_OVER_TWO, FENCE, GET, GOOD_WEBS,
                     NO_WEBS, PUT, THIRTY, chance_webs, small_webs)

TEXTS = [
    ("put 0 -5; get 1 | get 0; fence", [[("put", 0, -5), ("get", 1)], [("get", 0), FENCE]]),
    ("", [[]]),
    (" | ", [[], []]),
    (" |  | ", [[], [], []]),
    ("put 0 1", [[PUT]]),
    ("get 0", [[GET]]),
    ("fence", [[FENCE]]),
    ("fence; fence; fence", [[FENCE] * 3]),
    ("put 0 1 | ", [[PUT], []]),
    (" | put 0 1", [[], [PUT]]),
    ("put 0 1 |  | get 0", [[PUT], [], [GET]]),
    (" | fence | ", [[], [FENCE], []]),
    ("get 0 |  | ", [[GET], [], []]),
    ("put 3 0; get 3 | put 2 -1; get 2 | put 1 10; get 1",
     [[("put", 3, 0), ("get", 3)], [("put", 2, -1), ("get", 2)], [("put", 1, 10), ("get", 1)]]),
    ("put 0 " + "9" * 30 + "; put 0 -" + "9" * 30, [[("put", 0, THIRTY), ("put", 0, -THIRTY)]]),
    ("put 0 1" + "0" * 29, [[("put", 0, 10 ** 29)]]),
    ("; ".join(["put 0 1"] * 8) + "; fence", [[PUT] * 8 + [FENCE]]),
]

NO_NUMBERS = [
    "-0", "00", "000", "+1", "+0", "01", "-01", "--1", "-", "", "1-", "1.0", "1.", "1e3", "0x1", "1_0", "_1", "1,0",
    "a", "-a", "one", "None", "True", "1" + "0" * 30, "-1" + "0" * 30, "9" * 31, "0" * 31, "-" + "9" * 31,
    "9" * 5000, "\u0661", "\u0967", "\uff11", "\u00b2", "-\u0661", "1\u0661", "\u22121", "1\n", "\n1", "1\t", "\t1",
    "1\r", "1\x00", "\u00a01", "1;", "1|", ";1", "|1", "(1)", "\"1\"", "\ud800",
]

NO_TEXTS = [
    " ", "  ", "   ", "|", "||", " |", "| ", " || ", " | | ", " |  |", "|  | ", ";", "; ", " ;", " ; ", "; ; ",
    "\n", "\t", "\x00", "-", "0", "1", "put", "get", "put 0", "put  0", "put 0 ", "get ", "get  ", "fence 0", "fence 0 0",
    "get 0 0", "put 0 1 2", "put 0 1 ", " put 0 1", "put  0 1", "put 0  1", "put0 1", "put 01", "get0", "get  0", "get 0 ",
    " get 0", " fence", "fence ", "Fence", "FENCE", "fences", "fenc", "Put 0 1", "PUT 0 1", "Get 0", "GET 0", "set 0 1",
    "put 4 1", "put -1 1", "get 4", "get -1", "get 10", "put 10 1", "get " + "9" * 40, "get " + "9" * 5000,
    "fence;fence", "fence ; fence", "fence;  fence", "fence; ", "fence;", "; fence", ";fence", "fence; ; fence",
    "fence;; fence", "fence,fence", "fence, fence", "fence\n", "\nfence", "fence\nfence", "fence;\nfence", "fence;\tfence",
    "fence\t", "\tfence", "fence\r\n", "fence\n | fence", "fence |\nfence", "put\t0 1", "put 0\t1", "put\n0\n1",
    "put\u00a00 1", "get\u00a00", "fence|fence", "fence |fence", "fence| fence", "fence  | fence", "fence |  fence",
    "fence |", "| fence", " |fence", "fence| ", "fence | | fence", "fence || fence", "fence |  |", "|  | fence",
    "  | ", " |   ", "fence \u00a6 fence",
    " |  |  | ", "fence | fence | fence | fence", "put 0 1 | put 0 1 | put 0 1 | put 0 1", " |  |  |  | ",
    "; ".join(["put 0 1"] * 9), "; ".join(["get 0"] * 9), " | ".join(["get 0; put 0 1; get 1"] * 3),
    "; ".join(["put 0 1"] * 8) + " | get 0", "[]", "[[]]", "put(0, 1)", "('put', 0, 1)", "None",
]


class TestShown(unittest.TestCase):
    def test_what_is_written(self):
        for text, web in TEXTS:
            told = shown(web)
            self.assertEqual(told, text)
            self.assertIs(type(told), str)

    def test_very_many_fences(self):
        self.assertEqual(shown([[FENCE] * 5000, []]), "fence; " * 4999 + "fence | ")

    def test_refuses_what_is_no_web(self):
        for thing in NO_WEBS:
            with self.assertRaises(BadWeb, msg=str(thing)[:60]):
                shown(thing)


class TestRead(unittest.TestCase):
    def same(self, one, other):
        """Equal, and of lists, tuples, strings and whole numbers throughout."""
        self.assertEqual(one, other)
        self.assertEqual(repr(one), repr(other))

    def test_what_is_read(self):
        for text, web in TEXTS:
            self.same(read(text), web)

    def test_what_is_written_is_read_to_the_same_web(self):
        webs = GOOD_WEBS + [CROSS, CROSS_OF_THREE, EIGHT_IN_ONE] + EIGHTS_OVER_TWO + EIGHTS_OVER_THREE
        for web in webs + small_webs() + chance_webs(3, 200, 8):
            text = shown(web)
            self.same(read(text), web)
            self.assertEqual(shown(read(text)), text)

    def test_new_lists_each_time(self):
        first = read("fence | get 0")
        first[0].append(PUT)
        first.pop()
        self.assertEqual(read("fence | get 0"), [[FENCE], [GET]])

    def test_numbers(self):
        for n in (0, 1, -1, 9, 10, -10, 100, 2 ** 63, -2 ** 64, 10 ** 29, THIRTY, -THIRTY):
            self.same(read("put 1 " + str(n)), [[("put", 1, n)]])
        for box in range(4):
            self.same(read("get " + str(box)), [[("get", box)]])

    def test_refuses_what_no_number_is_written_as(self):
        for word in NO_NUMBERS:
            for text in ("put 0 " + word, "put 0 " + word + "; fence", "fence | put 0 " + word + " | ",
                         "put " + word + " 0", "get " + word, "fence; get " + word + " | fence"):
                with self.assertRaises(NoText, msg=repr(text)[:60]):
                    read(text)

    def test_refuses_texts_that_are_not_just_what_is_written(self):
        for text in NO_TEXTS:
            with self.assertRaises(NoText, msg=repr(text)[:60]):
                read(text)

    def test_a_sign_too_many_or_too_few_in_each_place(self):
        text = "put 0 -5; get 1 | get 0; fence | "
        near = []
        for at in range(len(text) + 1):
            near += [text[:at] + sign + text[at:] for sign in " ;|-01\n\tx\u0660"]
            near.append(text[:at] + text[at + 1:])
        for one in near:
            try:
                web = read(one)
            except NoText:
                continue
            self.assertEqual(shown(web), one)

    def test_a_blank_too_many_or_too_few_in_each_place(self):
        text = "put 0 -5; get 1 | get 0; fence"
        for at in range(len(text) + 1):
            with self.assertRaises(NoText):
                read(text[:at] + " " + text[at:])
            if text[at:at + 1] == " ":
                with self.assertRaises(NoText):
                    read(text[:at] + text[at + 1:])

    def test_refuses_what_is_no_text(self):
        for thing in (None, True, False, 0, 1, 5.0, [], [""], (), ("",), {}, set(), b"", b"fence", [[]], [["fence"]],
                      CROSS, [[FENCE]], object(), ["put 0 1"]):
            with self.assertRaises(NoText, msg=repr(thing)):
                read(thing)

    def test_very_many_fences_rows_and_blanks(self):
        self.assertEqual(read("fence; " * 4999 + "fence | "), [[FENCE] * 5000, []])
        for text in (" | " * 20000, " " * 20000, "; " * 20000, "fence; " * 20000, "put 0 1; " * 20000 + "fence"):
            with self.assertRaises(NoText):
                read(text)


if __name__ == "__main__":
    unittest.main()
