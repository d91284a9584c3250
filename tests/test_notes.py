"""`written` and `read`: weaves as texts, and the rows that are refused (point 13)."""

import copy
import random
import unittest

from weaves import weaves
from weavepull.errors import BadText, WeaveError
from weavepull.notes import read, written

# A line of each word, with each deed, test and fold, and its row.
ROWS = [
    (("source", 0), "source 0"),
    (("source", 17), "source 17"),
    (("map", (("add", 5),), 0), "map add 5 of 0"),
    (("map", (("times", 1000002), ("minus",)), 11), "map times 1000002, minus of 11"),
    (("map", (("both",), ("first",), ("both",), ("second",)), 1), "map both, first, both, second of 1"),
    (("map", (("sum",),), 3), "map sum of 3"),
    (("map", (("many",), ("add", 0)), 4), "map many, add 0 of 4"),
    (("keep", (("below", 9),), 0), "keep below 9 of 0"),
    (("keep", (("over", 0), ("rest", 10, 9), ("below", 1000002)), 5), "keep over 0, rest 10 9, below 1000002 of 5"),
    (("while", (("rest", 1, 0),), 2), "while rest 1 0 of 2"),
    (("while", (("below", 0), ("over", 7)), 12), "while below 0, over 7 of 12"),
    (("take", 0, 0), "take 0 of 0"),
    (("take", 9999, 22), "take 9999 of 22"),
    (("skip", 10, 9), "skip 10 of 9"),
    (("group", 1000002, 8), "group 1000002 of 8"),
    (("window", 9, 7), "window 9 of 7"),
    (("fold", "add", 0, 6), "fold add 0 of 6"),
    (("fold", "times", 1000002, 5), "fold times 1000002 of 5"),
    (("fold", "least", 100, 10), "fold least 100 of 10"),
    (("fold", "most", 1, 4), "fold most 1 of 4"),
    (("chain", 0, 1), "chain 0 1"),
    (("pair", 20, 3), "pair 20 3"),
    (("merge", 2, 2), "merge 2 2"),
]

BAD_ROWS = {
    "an empty row and blanks": ["", " ", "  "],
    "a word that is none": [
        "sources 0", "Source 0", "SOURCE 0", "0", "of", "of 0", "drop 3 of 0", "zip 0 1", "x", "add 5", "below 3",
        "map plus 5 of 0", "map Add 5 of 0", "map ad 5 of 0", "map five of 0", "keep above 3 of 0",
        "while under 3 of 0",
        "fold max 3 of 0", "fold Most 3 of 0", "take two of 0", "take 2 from 0", "take 2 OF 0", "take 2 0f 0",
        "map add 5, plus of 0", "keep over 3, odd of 0", "takes 2 of 0", "folds add 3 of 0", "~", "source one",
        "chain a b",
    ],
    "a blank more": [
        " source 0", "source  0", "source 0 ", "take  2 of 0", "take 2  of 0", "take 2 of  0", "take 2 of 0 ",
        " take 2 of 0", "map  add 5 of 0", "map add  5 of 0", "map add 5  of 0", "map add 5,  minus of 0",
        "map add 5, minus  of 0", "keep rest 2  1 of 0", "fold add  3 of 0", "fold  add 3 of 0", "chain 0  1",
        "chain 0 1 ",
        "keep over  3 of 0", " keep over 3 of 0", "map minus,  minus of 0", "tak e 2 of 0", "take 1 2 of 0",
        "chain 1 0 1",
        "source 1 0",
    ],
    "a blank fewer": [
        "source0", "take2 of 0", "take 2of 0", "take 2 of0", "mapadd 5 of 0", "map add5 of 0", "map add 5of 0",
        "map minusof 0", "keep rest 21 of 0", "foldadd 3 of 0", "fold add3 of 0", "chain0 1", "chain 01",
        "map minus of0",
        "keep rest2 1 of 0", "merge 01", "while over 3of 0",
    ],
    "a comma without a blank": ["map add 5,minus of 0", "map minus,minus of 0", "keep over 3,below 9 of 0"],
    "a blank ahead of a comma": [
        "map add 5 , minus of 0", "map minus , minus of 0", "keep over 3 , below 9 of 0", "map minus ,minus of 0",
    ],
    "a comma more or fewer": [
        "map add 5, of 0", "map add 5,of 0", "map , add 5 of 0", "map, add 5 of 0", "map ,add 5 of 0",
        "map add 5,, minus of 0",
        "map add, 5 of 0", "map add 5 minus of 0", "map minus minus of 0", "keep over 3 below 9 of 0",
        "keep rest 2, 1 of 0",
        "map add 5, , minus of 0", "map minus, of 0", "map , of 0", "chain 0, 1", "take 2, 3 of 0", "source 0,",
        "fold add, 3 of 0", "map add 5 of 0, minus of 0", "map add 5, minus, of 0", "keep over 3, of 0", "source, 0",
    ],
    "a nought ahead": [
        "source 00", "source 01", "take 02 of 0", "take 2 of 00", "take 2 of 01", "map add 05 of 0", "map add 00 of 0",
        "keep rest 02 1 of 0", "keep rest 2 01 of 0", "fold add 03 of 0", "chain 00 1", "chain 0 01", "window 09 of 0",
        "keep over 3, below 09 of 0", "group 0000000001 of 0",
    ],
    "ten figures": [
        "source 1000000000", "take 1234567890 of 0", "take 2 of 1000000000", "map add 9999999999 of 0",
        "chain 0 1000000000",
        "keep rest 1000000000 1 of 0", "fold add 1000000000 of 0", "chain 1000000000 0",
        "group 12345678901234567890 of 0",
        "source 0000000000", "while below 1000000000 of 0",
    ],
    "a sign": [
        "source -1", "source +1", "source -0", "source +0", "take -2 of 0", "take +2 of 0", "take 2 of -1",
        "take 2 of +1",
        "map add -5 of 0", "map add +5 of 0", "keep rest 2 -1 of 0", "fold add -3 of 0", "chain -1 0", "chain 0 +1",
        "skip -1 of 0",
    ],
    "no number": [
        "source x", "source 1x", "source 0x1", "source 1.0", "source 1_0", "source 1e3", "take x of 0", "take 2 of x",
        "map add x of 0", "keep rest 2 x of 0", "fold add x of 0", "chain 0 x", "chain x 0", "take 2 of of",
        "source source",
        "take of of 0", "source (1)", "source \"1\"", "keep over below of 0",
    ],
    "a number too many": [
        "source 0 1", "chain 0 1 2", "take 2 3 of 0", "take 2 of 0 1", "map add 5 6 of 0", "map minus 5 of 0",
        "merge 0 1 2",
        "keep below 2 3 of 0", "keep rest 2 1 0 of 0", "fold add 3 4 of 0", "map add 5 of 0 1",
        "map both 1, minus of 0",
        "map first 0 of 0", "map second 0 of 0", "map sum 0 of 0", "map many 0 of 0", "while over 1 2 of 0",
    ],
    "another word's form": [
        "source 0 of 1", "source of 0", "chain 0 of 1", "pair 2 of 0", "merge of 0", "take 2 0", "take 2", "skip 0 1",
        "map 2 of 0", "map 0 1", "keep 2 of 0", "while 0 1", "group add 2 of 0", "window below 2 of 0", "fold 3 of 0",
        "take add 2 of 0", "fold below 3 of 0", "fold minus of 0", "fold add 3, add 4 of 0", "chain minus of 0",
        "fold 0 1",
        "source add 1 of 0", "map add 5", "keep over 3", "group 2", "window 2 3", "chain add 1 of 0", "pair 0",
        "source",
    ],
    "deeds where tests stand": [
        "keep add 3 of 0", "while times 3 of 0", "keep minus of 0", "keep over 3, add 3 of 0",
        "while add 3, over 3 of 0",
        "keep both of 0", "while first of 0", "keep second of 0", "keep sum of 0", "while many of 0",
    ],
    "tests where deeds stand": [
        "map below 3 of 0", "map over 3 of 0", "map rest 3 1 of 0", "map add 3, over 3 of 0", "map below 3, minus of 0",
    ],
    "deeds, tests and folds in each other's places": [
        "fold minus 3 of 0", "fold sum 3 of 0", "fold over 3 of 0", "map least 3 of 0", "map most 3 of 0",
        "keep most 3 of 0",
    ],
    "another line end": ["source 0\r", "\rsource 0", "take 2 of 0\r", "chain 0 1\r", "\r", "source 0\rsource 1"],
}


def words_left_out(row):
    """Each word of the row, and the row without it."""
    words = row.split(" ")
    return [(word, " ".join(words[:at] + words[at + 1:])) for at, word in enumerate(words)]


class WrittenTests(unittest.TestCase):
    def test_a_row_for_each_word(self):
        for line, row in ROWS:
            self.assertEqual(written([line]), row)

    def test_rows_are_parted_by_one_line_feed(self):
        self.assertEqual(written([line for line, _ in ROWS]), "\n".join(row for _, row in ROWS))
        self.assertEqual(written([("source", 0), ("take", 2, 0)]), "source 0\ntake 2 of 0")

    def test_the_numbers_0_9999_and_1000002(self):
        for number in (0, 9999, 1000002):
            self.assertEqual(written([("source", number)]), f"source {number}")
            self.assertEqual(written([("skip", number, number)]), f"skip {number} of {number}")
            self.assertEqual(written([("keep", (("rest", number, number),), 0)]), f"keep rest {number} {number} of 0")

    def test_a_weave_that_cannot_be_is_written_too(self):
        self.assertEqual(written([("take", 10000, 5), ("pair", 1, 9)]), "take 10000 of 5\npair 1 9")
        self.assertEqual(written([("source", 0)] * 30), "\n".join(["source 0"] * 30))
        self.assertEqual(written([("map", (("add", 1),) * 70, 0)]), "map " + ", ".join(["add 1"] * 70) + " of 0")

    def test_what_was_handed_in_stays_as_it_was(self):
        weave = [line for line, _ in ROWS]
        handed = copy.deepcopy(weave)
        written(weave)
        self.assertEqual(weave, handed)


class ReadTests(unittest.TestCase):
    def test_a_line_for_each_row(self):
        for line, row in ROWS:
            told = read(row)
            self.assertEqual(told, [line])
            self.assertEqual((type(told), type(told[0])), (list, tuple))
        self.assertEqual(read("\n".join(row for _, row in ROWS)), [line for line, _ in ROWS])

    def test_deeds_and_tests_are_tuples(self):
        for row in ("map add 5, minus of 0", "keep over 3, rest 2 1 of 0", "while below 3 of 0"):
            told = read(row)[0][1]
            self.assertEqual([type(told)] + [type(part) for part in told], [tuple] * (1 + len(told)))

    def test_numbers_of_nine_figures(self):
        for number in (0, 7, 10, 9999, 1000002, 1000003, 100000000, 999999999):
            self.assertEqual(read(f"source {number}"), [("source", number)])
            self.assertEqual(read(f"take {number} of {number}"), [("take", number, number)])
            self.assertEqual(read(f"map add {number} of 0"), [("map", (("add", number),), 0)])
            self.assertEqual(read(f"fold least {number} of 0"), [("fold", "least", number, 0)])

    def test_whether_the_weave_can_be_is_not_looked_at(self):
        for weave in (
            [("take", 2, 0)], [("chain", 5, 7)], [("source", 3), ("source", 3)], [("source", 0)] * 40,
            [("window", 0, 0)], [("group", 0, 0)], [("take", 99999, 3)], [("keep", (("rest", 2, 2),), 1)],
            [("map", (("first",),) * 80, 0)], [("map", (("sum",),), 9), ("fold", "add", 999999999, 9)],
        ):
            self.assertEqual(read(written(weave)), weave)

    def test_what_is_written_is_read_to_the_same_weave(self):
        for seed, _, weave, _, _ in weaves():
            text = written(weave)
            self.assertEqual(read(text), weave, seed)
            self.assertEqual(written(read(text)), text, seed)

    def test_lists_that_were_given_back_may_be_changed(self):
        text = "source 0\ntake 2 of 0"
        told = read(text)
        told.append(("take", 1, 1))
        told[0] = ("source", 5)
        self.assertEqual(read(text), [("source", 0), ("take", 2, 0)])


class BadTextTests(unittest.TestCase):
    def refused(self, text, row):
        with self.assertRaises(BadText, msg=repr(text)) as caught:
            read(text)
        self.assertEqual(caught.exception.row, row, repr(text))

    def test_each_way_in_which_a_row_is_not_so(self):
        for rows in BAD_ROWS.values():
            for row in rows:
                self.refused(row, 0)

    def test_the_first_row_that_is_not_so(self):
        good = [row for _, row in ROWS]
        for rows in BAD_ROWS.values():
            for row in rows:
                self.refused("\n".join(good[:3] + [row]), 3)
                self.refused("\n".join([row] + good), 0)
                self.refused("\n".join(good + [row] + good), len(good))
                self.refused("\n".join(good[:1] + [row, "x", row]), 1)

    def test_a_word_left_out(self):
        for line, row in ROWS:
            for word, shorter in words_left_out(row):
                if word in ("both,", "first,", "many,"):
                    # A deed of one word, with its comma: the others are a row.
                    self.assertEqual(len(read(shorter)[0][1]), len(line[1]) - 1)
                else:
                    self.refused(shorter, 0)
        for row in ("map of 0", "keep of 0", "take of 0", "fold of 0", "fold add of 0", "take 2 0", "source",
        "chain 0"):
            self.refused(row, 0)

    def test_an_empty_text_and_empty_rows(self):
        self.refused("", 0)
        self.refused("\n", 0)
        self.refused("\nsource 0", 0)
        self.refused("source 0\n\nsource 1", 1)

    def test_a_line_feed_behind_the_last_row(self):
        self.refused("source 0\n", 1)
        self.refused("source 0\ntake 2 of 0\n", 2)
        self.refused("source 0\n\n", 1)

    def test_another_line_end(self):
        self.refused("source 0\r\ntake 2 of 0", 0)
        self.refused("source 0\ntake 2 of 0\r\ntake 2 of 0", 1)
        self.refused("source 0\rtake 2 of 0", 0)
        self.refused("source 0\n\rtake 2 of 0", 1)
        self.refused("source 0\r\n", 0)
        for end in ("\t", "\v", "\f", "\x1c", "\x85", "\u2028"):
            self.refused("source 0" + end + "source 1", 0)

    def test_figures_alone(self):
        for sign in ("\u00b2", "\u0663", "\uff11", "\u2460"):
            self.refused("source " + sign, 0)

    def test_a_refusal(self):
        with self.assertRaises(WeaveError):
            read("x")

    def test_what_is_read_is_only_what_is_written(self):
        # Texts with a sign more, fewer or another one: what is not refused is written just so.
        chance = random.Random(1)
        signs = " ,0129abdefilmnorst-\n"
        rows = [row for _, row in ROWS]
        read_ones = 0
        for _ in range(20000):
            text = "\n".join(chance.sample(rows, chance.randint(1, 2)))
            at = chance.randrange(len(text) + 1)
            text = text[:at] + chance.choice(("", chance.choice(signs))) + text[at + chance.randint(0, 1):]
            try:
                weave = read(text)
            except BadText as refused:
                first = text.split("\n")[:refused.row]
                self.assertEqual([written(read(row)) for row in first], first)
                self.refused(text.split("\n")[refused.row], 0)
            else:
                read_ones += 1
                self.assertEqual(written(weave), text)
        self.assertGreater(read_ones, 1000)


if __name__ == "__main__":
    unittest.main()
