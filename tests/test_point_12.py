"""Point 12: deeds that are written as rows, and read."""

import random
import unittest

from mixserver.errors import BadDeed, BadText
from mixserver.plays import played, read, written
from tests.chance import as_play, deeds
from tests.helpers import refused
from tests.wrong_deeds import GOOD

ROWS = ["add 0 1 2 3 64", "parcel 0 5 1,-2,3", "end 0 9", "lead 0 32 4", "hush 0", "wake 0", "beat"]


class Written(unittest.TestCase):
    def test_none(self):
        self.assertEqual(written([]), "")

    def test_each_kind(self):
        for deed, row in zip(GOOD, ROWS):
            self.assertEqual(written([deed]), row)

    def test_the_one_of_the_document(self):
        self.assertEqual(written([("parcel", 2, 40, (3, -7, 0))]), "parcel 2 40 3,-7,0")

    def test_rows_with_a_line_end_between(self):
        self.assertEqual(written(GOOD), "\n".join(ROWS))
        self.assertEqual(written([("beat",), ("beat",)]), "beat\nbeat")

    def test_numbers(self):
        self.assertEqual(written([("hush", 7), ("hush", 42), ("wake", 999)]), "hush 7\nhush 42\nwake 999")
        self.assertEqual(written([("parcel", 0, 10, (0, 9, 10, 99, 100, 999, -1, -10, -999))]),
                         "parcel 0 10 0,9,10,99,100,999,-1,-10,-999")
        self.assertEqual(written([("parcel", 0, 0, (-5,))]), "parcel 0 0 -5")

    def test_300(self):
        self.assertEqual(written([("beat",)] * 300), "\n".join(["beat"] * 300))
        self.assertEqual(refused(self, BadDeed, written, [("beat",)] * 301).number, 300)

    def test_deeds_stay(self):
        rows = list(GOOD)
        written(rows)
        self.assertEqual(rows, GOOD)


class Read(unittest.TestCase):
    def test_none(self):
        self.assertEqual(read(""), [])

    def test_each_kind(self):
        for deed, row in zip(GOOD, ROWS):
            self.assertEqual(read(row), [deed])
        self.assertEqual(read("\n".join(ROWS)), GOOD)

    def test_kinds(self):
        told = read("parcel 0 5 1,-2\nbeat")
        self.assertIs(type(told), list)
        self.assertEqual([type(deed) for deed in told], [tuple, tuple])
        self.assertEqual([type(part) for part in told[0]], [str, int, int, tuple])
        self.assertEqual([type(number) for number in told[0][3]], [int, int])

    def test_a_parcel_of_one_and_of_32(self):
        self.assertEqual(read("parcel 0 0 -7"), [("parcel", 0, 0, (-7,))])
        self.assertEqual(read("parcel 0 0 " + ",".join(["-999"] * 32)), [("parcel", 0, 0, (-999,) * 32)])

    def test_deeds_that_a_mixer_would_refuse(self):
        self.assertEqual(read("hush 999\nadd 6 0 0 999 999"), [("hush", 999), ("add", 6, 0, 0, 999, 999)])

    def test_300(self):
        self.assertEqual(read("\n".join(["beat"] * 300)), [("beat",)] * 300)

    def test_what_is_told_may_be_changed(self):
        told = read("beat\nhush 1")
        told.append(None)
        told[0] = None
        self.assertEqual(read("beat\nhush 1"), [("beat",), ("hush", 1)])
        read("").append(None)
        self.assertEqual(read(""), [])


class ThereAndBack(unittest.TestCase):
    def test_each_number(self):
        for number in range(1000):
            for deed in (("add", number, number, number, number, number), ("parcel", number, number, (number,)),
                         ("parcel", 0, 0, (-number, number)), ("end", number, number),
                         ("lead", number, number, number), ("hush", number), ("wake", number)):
                self.assertEqual(read(written([deed])), [deed])

    def test_deeds_by_chance(self):
        for seed in range(60):
            rows = as_play(deeds(seed, 300))
            text = written(rows)
            self.assertEqual(read(text), rows)
            self.assertEqual(written(read(text)), text)

    def test_a_play_that_was_written(self):
        rows = [("add", 0, 1, 1, 0, 64), ("parcel", 0, 0, (4, -5)), ("beat",), ("beat",), ("beat",)]
        self.assertEqual(played(3, read(written(rows))), played(3, rows))


# Rows that write no deed.
WRONG_NUMBERS = ["", "-", "--1", "-0", "-00", "+1", "+0", "00", "01", "007", "0000", "1000", "0001", "9999", "1.0",
                 "1.", "1e1", "1_0", "0x1", "x", "one", "1-", "1+", "(1)", "'1'", "None", "True", "*", "~", "1;",
                 "9" * 5000, "-" + "9" * 5000]
WRONG_PLAIN = WRONG_NUMBERS + ["-1", "-999", "1,2", "1,", ",1", ","]
WRONG_IN_PARCELS = WRONG_NUMBERS + ["-1000", "-01", "-1-", "- 1", " 1", "1 "]
WRONG_ROWS = ["", " ", "  ", "dance", "dance 1", "Beat", "BEAT", "Hush 0", "PARCEL 0 0 1", "beat ", " beat", "beat,",
              "beat 0", "beat beat", "beats", "bea t", "hush", "hush ", "hush  0", " hush 0", "hush 0 ", "hush 0  ",
              "hush,0", "hush0", "hush 0 1", "0 hush", "0", "1,2", "wake", "wake 0 0", "end 0", "end 0 1 2",
              "end 0  1", "lead 0 1", "lead 0 1 2 3", "add 0 1 2 3", "add 0 1 2 3 4 5", "add", "parcel",
              "parcel 0", "parcel 0 0", "parcel 0 1,2", "parcel 0 0 ", "parcel 0 0  1", "parcel 0  0 1",
              "parcel 0 0 1 2", "parcel 0 0 1,2 3", "parcel 0 0 1 ,2", "parcel 0 0 (1,2)", "parcel 0 0 1;2",
              "parcel 0 0 1,2 ", " parcel 0 0 1,2", "parcel 0 1,2 0", "('beat',)", "parcel 0 0 " + ",".join(["1"] * 33)]


def wrong_rows():
    """Tell rows that write no deed."""
    rows = list(WRONG_ROWS)
    for word in WRONG_PLAIN:
        rows += [f"hush {word}", f"wake {word}", f"end {word} 1", f"end 1 {word}", f"lead 0 {word} 1",
                 f"lead 0 1 {word}", f"parcel {word} 0 1", f"parcel 0 {word} 1"]
        for at in range(5):
            words = ["1"] * 5
            words[at] = word
            rows.append("add " + " ".join(words))
    for word in WRONG_IN_PARCELS:
        rows += [f"parcel 0 0 {word}", f"parcel 0 0 {word},1", f"parcel 0 0 1,{word}", f"parcel 0 0 1,{word},1"]
    return rows


class BadTexts(unittest.TestCase):
    def row(self, text):
        told = refused(self, BadText, read, text).row
        self.assertIs(type(told), int)
        return told

    def test_each_one_behind_another(self):
        for wrong in wrong_rows():
            self.assertEqual(self.row("beat\n" + wrong), 1, wrong)

    def test_each_one_ahead_of_another(self):
        for wrong in wrong_rows():
            self.assertEqual(self.row(wrong + "\nbeat"), 0, wrong)

    def test_each_one_alone(self):
        for wrong in wrong_rows():
            # The empty text writes no deeds, the empty row writes no deed.
            if wrong != "":
                self.assertEqual(self.row(wrong), 0, wrong)

    def test_line_ends(self):
        self.assertEqual(self.row("\n"), 0)
        self.assertEqual(self.row("\n\n"), 0)
        self.assertEqual(self.row("beat\n"), 1)
        self.assertEqual(self.row("\nbeat"), 0)
        self.assertEqual(self.row("beat\n\nbeat"), 1)
        self.assertEqual(self.row("beat\nbeat\n\n"), 2)
        self.assertEqual(self.row("parcel 0 0 1,\n2"), 0)

    def test_the_first_of_several(self):
        self.assertEqual(self.row("beat\nhush 01\ndance\n"), 1)
        self.assertEqual(self.row("beat\nbeat\ndance\nhush 01"), 2)

    def test_too_many(self):
        self.assertEqual(self.row("\n".join(["beat"] * 301)), 300)
        self.assertEqual(self.row("\n".join(["beat"] * 310)), 300)
        self.assertEqual(self.row("\n".join(["beat"] * 300 + ["dance"])), 300)
        self.assertEqual(self.row("\n".join(["beat"] * 305 + ["dance"])), 300)
        self.assertEqual(self.row("\n".join(["beat"] * 299 + ["dance"] * 3)), 299)
        self.assertEqual(self.row("\n".join(["beat"] * 4 + ["dance"] + ["beat"] * 300)), 4)
        # A line end behind the 300th row begins a 301st.
        self.assertEqual(self.row("beat\n" * 300), 300)
        self.assertEqual(self.row("beat\n" * 299), 299)

    def test_a_text_with_a_sign_changed_is_refused_or_is_what_its_deeds_write(self):
        chance = random.Random(12)
        signs = [chr(code) for code in range(32, 127) if code != 37] + ["\n", "", "", "0", "-", " "]
        text = "\n".join(ROWS)
        taken = 0
        for _ in range(5000):
            at = chance.randrange(len(text))
            other = text[:at] + chance.choice(signs) + text[at + chance.randint(0, 1):]
            try:
                told = read(other)
            except BadText as why:
                rows = other.split("\n")
                self.assertEqual(len(read("\n".join(rows[:why.row]))), why.row)
                self.assertEqual(self.row("beat\n" + rows[why.row]), 1)
                continue
            self.assertEqual(written(told), other)
            taken += 1
        self.assertGreater(taken, 100)


if __name__ == "__main__":
    unittest.main()
