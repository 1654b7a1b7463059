"""Texts: which are good, how the others are refused, the family of a text, and what `read` tells."""

import random
import unittest

from families import is_family
from motiffield.errors import OneLine, TooGreat, WrongSign
from motiffield.reader import Pattern, read
from texts import (
    ALL_SIGNS, START, drawn, family_of, is_flat, motif, motifs, passed, refusal, written, wrong_place,
)

DOT = "[1;1,0;0,1]"
FLAT = "[1;1,2;2,4]"
# 721 cells: 103 and 7 have no common measure.
GREAT = "([1;12,5;1,9]|[1;7,0;0,1])"
GOOD = [
    DOT,
    "[.;-12,12;11,-10]",
    "[12/34/5.;2,0;0,3]",
    "[12345612/........;8,-1;0,2]",
    "[1/2/3/4/5/6/./1;1,10;-1,0]",
    "s-12,0:[6;1,0;0,1]",
    "h16m[1;0,1;1,1]",
    "([1.;2,0;0,1]|t[2/3;1,1;0,2])",
    "m(s1,-2:[1;3,0;1,1]|(h22[2;2,0;0,1]|[3;1,0;0,2]))",
    "mth61s12,-11:m[1;1,0;0,1]",
    "ttmt(" + DOT + "|" + DOT + ")",
    FLAT,
    GREAT,
]


def told(text):
    """What `read` makes of a text: the refusal, or the family."""
    refused = refusal(read, text)
    return read(text).shifts if refused is None else refused


def wrong(place):
    return ("WrongSign", place)


class Good(unittest.TestCase):
    def test_each_form(self):
        for text in GOOD:
            with self.subTest(text):
                self.assertIsNone(wrong_place(text))
                self.assertNotEqual((refusal(read, text) or ("",))[0], "WrongSign")

    def test_each_number(self):
        for number in range(-12, 13):
            for text in (f"s{number},0:{DOT}", f"s0,{number}:{DOT}"):
                self.assertEqual(told(text), (1, 1, 0))
            many = max(abs(number), 1)
            if number != 0:
                self.assertEqual(told(f"[1;{number},0;0,1]"), (many, 1, 0))
                self.assertEqual(told(f"[1;0,1;{number},0]"), (many, 1, 0))
                self.assertEqual(told(f"[1;0,{number};1,0]"), (1, many, 0))
                self.assertEqual(told(f"[1;1,0;0,{number}]"), (1, many, 0))

    def test_each_size_of_a_motif(self):
        for width in range(1, 10):
            for height in range(1, 10):
                rows = "/".join(["." * width] * height)
                expected = (1, 1, 0)
                if width == 9:
                    expected = wrong(9)
                elif height == 9:
                    expected = wrong(1 + 8 * (width + 1) - 1)
                with self.subTest(width=width, height=height):
                    self.assertEqual(told(f"[{rows};1,0;0,1]"), expected)

    def test_each_pair_of_hues(self):
        for old in "0123456789.-":
            for new in "0123456789.-":
                expected = (1, 1, 0)
                if old not in "123456":
                    expected = wrong(1)
                elif new not in "123456":
                    expected = wrong(2)
                self.assertEqual(told(f"h{old}{new}{DOT}"), expected)

    def test_each_sign_in_a_motif(self):
        for sign in ALL_SIGNS:
            expected = (1, 1, 0) if sign in ".123456" else wrong(1)
            self.assertEqual(told(f"[{sign};1,0;0,1]"), expected)


class WrongSigns(unittest.TestCase):
    def test_the_examples(self):
        self.assertEqual(told("[1;1,0;0,13]"), wrong(10))
        self.assertEqual(told("[12/1;1,0;0,1]"), wrong(5))
        self.assertEqual(told("[1;1,0;0,1]m"), wrong(11))
        self.assertEqual(told("m"), wrong(1))

    def test_the_empty_text(self):
        self.assertEqual(told(""), wrong(0))

    def test_class_and_field(self):
        with self.assertRaises(WrongSign) as caught:
            read("[1;1,0;0,13]")
        self.assertIs(type(caught.exception), WrongSign)
        self.assertIs(type(caught.exception.place), int)
        self.assertEqual(caught.exception.place, 10)

    def test_told_answers(self):
        answers = [
            ("[", 1), ("[;1,0;0,1]", 1), ("[1", 2), ("[1/", 3), ("[1//1;1,0;0,1]", 3), ("[/1;1,0;0,1]", 1),
            ("[1/;1,0;0,1]", 3), ("[1/12;1,0;0,1]", 4), ("[12/12/1;1,0;0,1]", 8), ("[0;1,0;0,1]", 1),
            ("[7;1,0;0,1]", 1), ("[1 ;1,0;0,1]", 2), (" " + DOT, 0), (DOT + " ", 11), (DOT + DOT, 11),
            ("[1,1,0;0,1]", 2), ("[1;1;0;0,1]", 4), ("[1;1,0,0,1]", 6), ("[1;1,0;0;1]", 8), ("[1;1,0;0,1", 10),
            ("[1;1,0;0,1)", 10), ("[1;1,0]", 6), ("[1;1,0;0,1;1,1]", 10), ("(" + DOT, 12), ("(" + DOT + "|", 13),
            ("(" + DOT + ")", 12), ("(" + DOT + "|" + DOT, 24), ("(" + DOT + "|" + DOT + "|", 24), ("()", 1),
            ("(|", 1), ("|", 0), (")", 0), ("]", 0), ("1", 0), ("s", 1), ("s1", 2), ("s12", 3), ("s1,", 3),
            ("s1,1", 4), ("s1,1" + DOT, 4), ("s1;1:" + DOT, 2), ("s:" + DOT, 1), ("h", 1), ("h1", 2), ("h12", 3),
            ("h1" + DOT, 2), ("h1,2" + DOT, 2), ("h01" + DOT, 1), ("h17" + DOT, 2), ("h123" + DOT, 3), ("M" + DOT, 0),
            ("t", 1), ("tm", 2), ("mt" + DOT + ")", 13), ("x", 0), ("~", 0), (" ", 0),
        ]
        for text, place in answers:
            with self.subTest(text):
                self.assertEqual(told(text), wrong(place))

    def test_each_beginning_ends_too_early(self):
        for text in GOOD:
            for length in range(len(text)):
                self.assertEqual(told(text[:length]), wrong(length), text[:length])

    def test_signs_put_anew_left_out_and_put_in(self):
        for text in GOOD:
            stacks = START
            for place in range(len(text) + 1):
                head, rest = text[:place], text[place + 1:]
                others = [head + rest]
                others += [head + sign + rest for sign in ALL_SIGNS]
                others += [head + sign + text[place:] for sign in ALL_SIGNS]
                for other in others:
                    self.hold(other, wrong_place(other, stacks, place))
                if place < len(text):
                    stacks = passed(stacks, text[place])

    def hold(self, text, place):
        refused = refusal(read, text)
        if place is None:
            right = refused is None or refused[0] != "WrongSign"
        else:
            right = refused == wrong(place)
        if not right:
            self.fail(f"{text!r} was told as {refused}, its first wrong sign is at {place}")

    def test_texts_of_few_signs(self):
        texts = [""]
        for length in range(5):
            for text in texts:
                self.hold(text, wrong_place(text))
            texts = [text + sign for text in texts for sign in "[(|smth:;,/-01.]"]
            texts = [text for text in texts if wrong_place(text[:-1]) == len(text) - 1]

    def test_texts_drawn_sign_by_sign(self):
        chance = random.Random(9)
        for _ in range(400):
            text = ""
            stacks = START
            while len(text) < 60:
                going_on = [sign for sign in ALL_SIGNS if passed(stacks, sign)]
                if not going_on:
                    break
                text += chance.choice(going_on if chance.random() < 0.98 else ALL_SIGNS)
                stacks = passed(stacks, text[-1])
            self.hold(text, wrong_place(text))

    def test_numbers_written_otherwise(self):
        forms = ["[1;{},0;0,1]", "[1;1,{};0,1]", "[1;1,0;{},1]", "[1;1,0;0,{}]", "s{},0:" + DOT, "ms0,{}:" + DOT]
        numbers = [
            ("00", 1), ("-0", 1), ("+1", 0), ("01", 1), ("13", 1), ("-13", 2), ("1_0", 1), ("", 0), ("-", 1), ("+", 0),
            ("--1", 1), ("-+1", 1), ("+0", 0), ("000", 1), ("-00", 1), ("-01", 1), ("012", 1), ("19", 1), ("20", 1),
            ("-20", 2), ("21", 1), ("99", 1), ("100", 2), ("112", 2), ("120", 2), ("-120", 3), ("-1-", 2), ("1-", 1),
            (" 1", 0), ("1 ", 1), ("- 1", 1), ("1.0", 1), (".5", 0), ("1e1", 1), ("0x1", 1), ("a", 0), ("_1", 0),
            ("1" * 1000, 2), ("0" * 1000, 1), ("-" * 1000, 1), ("7" * 1000, 1),
        ]
        for form in forms:
            start = form.index("{")
            for number, place in numbers:
                with self.subTest(form=form, number=number[:5]):
                    self.assertEqual(told(form.format(number)), wrong(start + place))

    def test_texts_of_any_length(self):
        for many in (1000, 10 ** 6):
            self.assertEqual(told("[" + "1" * many), wrong(9))
            self.assertEqual(told("[" + "1" * many + ";1,0;0,1]"), wrong(9))
            self.assertEqual(told("[" + "1/" * many), wrong(16))
            self.assertEqual(told("[" + "/" * many), wrong(1))
            self.assertEqual(told("[" * many), wrong(1))
            self.assertEqual(told(" " * many), wrong(0))
            self.assertEqual(told(DOT * many), wrong(11))
            self.assertEqual(told(DOT + "]" * many), wrong(11))
            self.assertEqual(told("s1,1:" * many), wrong(25))
            self.assertEqual(told("h12" * many), wrong(15))


class Nests(unittest.TestCase):
    BEGUN = ["m", "t", "h12", "s1,-12:", "("]

    def ended(self, begun):
        """A good text, or one nested too deep, that begins with these forms."""
        return "".join(begun) + DOT + "".join("|" + DOT + ")" for part in begun if part == "(")

    def test_five_forms_round_a_motif(self):
        for part in self.BEGUN:
            for many in range(6):
                self.assertEqual(told(self.ended([part] * many)), (1, 1, 0))
        for turn in range(5):
            self.assertEqual(told(self.ended(self.BEGUN[turn:] + self.BEGUN[:turn])), (1, 1, 0))

    def test_six_and_some_thousand(self):
        for part in self.BEGUN:
            for many in (6, 7, 12, 1000, 5000):
                self.assertEqual(told(self.ended([part] * many)), wrong(5 * len(part)))
                self.assertEqual(told(part * many), wrong(5 * len(part)))
        for turn in range(5):
            five = self.BEGUN[turn:] + self.BEGUN[:turn]
            for part in self.BEGUN:
                self.assertEqual(told(self.ended(five + [part])), wrong(len("".join(five))))

    def test_a_motif_alone_begins_within_five(self):
        for sign in ALL_SIGNS:
            if sign != "[":
                self.assertEqual(told("mmmmm" + sign), wrong(5))
                self.assertEqual(told("mmmm(" + DOT + "|" + sign), wrong(17))
        self.assertEqual(told("mmmmm["), wrong(6))

    def test_forms_that_have_ended_do_not_count(self):
        deep = "mmmm" + DOT
        self.assertEqual(told(f"({deep}|{deep})"), (1, 1, 0))
        self.assertEqual(told(f"({deep}|m{deep})"), wrong(len(deep) + 2 + 4))
        self.assertEqual(told(f"(m{deep}|{deep})"), wrong(5))
        begun = f"m(({DOT}|tt{DOT})|(tt"
        self.assertEqual(told(begun), wrong(len(begun)))
        self.assertEqual(told(begun + "t"), wrong(len(begun)))
        self.assertEqual(told(f"{begun}{DOT}|{DOT}))"), (1, 1, 0))
        left = right = DOT
        for _ in range(5):
            left = f"({left}|{DOT})"
            right = f"({DOT}|{right})"
        self.assertEqual(told(left), (1, 1, 0))
        self.assertEqual(told(right), (1, 1, 0))
        self.assertEqual(told(f"({left}|{DOT})"), wrong(5))
        self.assertEqual(told(f"({DOT}|{right})"), wrong(5 * 13))

    def test_as_many_motifs_as_there_may_be(self):
        text = "[" + "/".join(["12345612"] * 8) + ";-12,-11;11,-12]"
        for _ in range(5):
            text = f"({text}|{text})"
        self.assertEqual(text.count("["), 32)
        self.assertEqual(told(text), (265, 1, family_of(motif("1", (-12, -11), (11, -12)))[2]))
        self.assertEqual(told(text + "m"), wrong(len(text)))
        self.assertEqual(told(text[:-1]), wrong(len(text) - 1))


class AlongOneLine(unittest.TestCase):
    def line(self, text, place):
        self.assertEqual(told(text), ("OneLine", place), text)

    def test_class_and_field(self):
        with self.assertRaises(OneLine) as caught:
            read("m" + FLAT)
        self.assertIs(type(caught.exception), OneLine)
        self.assertIs(type(caught.exception.place), int)
        self.assertEqual(caught.exception.place, 1)

    def test_shifts_along_one_line(self):
        for shifts in ("0,0;0,0", "0,0;1,2", "3,-4;0,0", "1,0;5,0", "0,2;0,-3", "6,-9;-4,6", "12,12;-12,-12"):
            self.line(f"[1;{shifts}]", 0)
            self.line(f"[./2/.;{shifts}]", 0)

    def test_wherever_it_stands(self):
        for begun in ("m", "t", "h12", "s-12,12:", "mtmtm", "h11s0,0:tt"):
            self.line(begun + FLAT, len(begun))
        self.line(f"({FLAT}|{DOT})", 1)
        self.line(f"({DOT}|{FLAT})", 13)
        self.line(f"m(({DOT}|t{DOT})|(h12{FLAT}|{DOT}))", 33)
        self.line(f"((({DOT}|{DOT})|{DOT})|{FLAT})", 41)

    def test_the_first_of_several(self):
        self.line(f"({FLAT}|{FLAT})", 1)
        self.line(f"({DOT}|({FLAT}|m{FLAT}))", 14)
        self.line(f"(({DOT}|{FLAT})|{FLAT})", 14)
        self.line(f"((({DOT}|mt{FLAT})|{FLAT})|{FLAT})", 17)

    def test_also_where_a_field_would_be_too_great(self):
        self.line(f"({GREAT}|{FLAT})", len(GREAT) + 2)
        self.line(f"({FLAT}|{GREAT})", 1)
        self.line(f"m({GREAT}|s1,1:{FLAT})", len(GREAT) + 8)


class Great(unittest.TestCase):
    def test_class(self):
        with self.assertRaises(TooGreat) as caught:
            read(GREAT)
        self.assertIs(type(caught.exception), TooGreat)

    def test_just_above_the_most(self):
        fits = {
            "([1;9,0;0,8]|[1;10,0;0,1])": (90, 8, 0),
            "([1;12,0;0,12]|[1;5,0;0,1])": (60, 12, 0),
            "([1;0,12;12,0]|[1;1,0;0,5])": (12, 60, 0),
            "(([1;9,0;0,1]|[1;1,0;0,8])|([1;10,0;0,1]|[1;2,0;0,2]))": (90, 8, 0),
        }
        for text, family in fits.items():
            for begun in ("", "s7,-3:", "h12"):
                self.assertEqual(told(begun + text), family)
            self.assertEqual(told("m" + text), family)
            self.assertEqual(told("t" + text), (family[1], family[0], 0))
        beyond = [
            GREAT,
            "([1;11,0;0,11]|[1;6,0;0,1])",
            "([1;1,0;0,11]|[1;11,0;0,6])",
            "([1;7,0;0,8]|[1;1,1;-12,1])",
            "([1;12,0;0,12]|[1;11,0;0,11])",
            "(([1;9,0;0,8]|[1;10,0;0,1])|[1;4,0;0,1])",
        ]
        for text in beyond:
            for begun in ("", "m", "t", "s7,-3:", "h12", f"({DOT}|", "mtm"):
                ended = begun + text + (")" if begun[:1] == "(" else "")
                self.assertEqual(told(ended), ("TooGreat",), ended)
            self.assertEqual(told(f"({text}|{DOT})"), ("TooGreat",))

    def test_far_beyond_the_most(self):
        parts = [f"[1;{a},0;0,{b}]" for a, b in ((12, 11), (7, 5), (11, 9), (5, 8))]
        text = f"(({parts[0]}|{parts[1]})|({parts[2]}|{parts[3]}))"
        self.assertEqual(told(text), ("TooGreat",))
        self.assertEqual(told(f"(({parts[0]}|{parts[1]})|t({text}|{text}))"), ("TooGreat",))


class Order(unittest.TestCase):
    def test_wherever_the_faults_stand(self):
        self.assertEqual(told(f"({GREAT}|{FLAT}"), wrong(len(GREAT) + 13))
        self.assertEqual(told(f"({FLAT}|{GREAT}]"), wrong(len(GREAT) + 13))
        self.assertEqual(told(FLAT + "m"), wrong(11))
        self.assertEqual(told(GREAT + "m"), wrong(len(GREAT)))
        self.assertEqual(told(f"({FLAT}|[1;1,0;0,13])"), wrong(23))
        self.assertEqual(told(f"([1;1,0;0,13]|{FLAT})"), wrong(11))
        self.assertEqual(told(f"({GREAT}|{FLAT})"), ("OneLine", len(GREAT) + 2))
        self.assertEqual(told(f"({GREAT}|{DOT})"), ("TooGreat",))


class Families(unittest.TestCase):
    def test_told_answers(self):
        answers = {
            "[12;2,0;1,1]": (2, 1, 1),
            "[1;3,2;1,4]": (5, 2, 3),
            "[123456;1,0;0,1]": (1, 1, 0),
            "m[1;3,2;1,4]": (5, 2, 2),
            "t[1;3,2;1,4]": (10, 1, 6),
            "s5,-7:[1;3,2;1,4]": (5, 2, 3),
            "h34[1;3,2;1,4]": (5, 2, 3),
            "([12/21;2,0;0,2]|[3;5,1;0,1])": (10, 2, 0),
            "([1;2,0;0,1]|[1;3,0;0,1])": (6, 1, 0),
            "([1;1,1;0,2]|m[1;3,1;0,2])": (6, 1, 3),
            "(t[1;4,0;0,1]|[1;6,0;0,1])": (6, 4, 0),
            "tm[1;5,0;2,1]": (5, 1, 3),
            "mt[1;5,0;2,1]": (5, 1, 3),
            "[.;12,12;12,-12]": (24, 12, 12),
        }
        for text, family in answers.items():
            with self.subTest(text):
                self.assertEqual(told(text), family)

    def test_the_hues_do_not_matter(self):
        for rows in (".", "1", "11/11", "123456/654321", "..../...."):
            self.assertEqual(told(f"[{rows};4,0;1,3]"), (4, 3, 1))

    def test_drawn_texts(self):
        chance = random.Random(11)
        met = {}
        for deep, reach in [(0, 12)] * 60 + [(1, 12), (2, 12), (2, 4), (3, 3), (5, 2), (5, 1)] * 60:
            tree = drawn(chance, deep, reach, 3)
            text = written(tree)
            expected = self.expected(tree, text)
            self.assertEqual(told(text), expected, text)
            kind = expected[0] if type(expected[0]) is str else "good"
            met[kind] = met.get(kind, 0) + 1
        self.assertGreater(min(met["good"], met["OneLine"], met["TooGreat"]), 20)

    def expected(self, tree, text):
        """The refusal or the family, by the words of points 10 to 12."""
        places = [place for place, sign in enumerate(text) if sign == "["]
        flat = [place for place, part in zip(places, motifs(tree), strict=True) if is_flat(part)]
        if flat:
            return ("OneLine", flat[0])
        return family_of(tree) or ("TooGreat",)


class Read(unittest.TestCase):
    def test_text_and_shifts(self):
        for text in GOOD:
            if text not in (FLAT, GREAT):
                pattern = read(text)
                self.assertIs(type(pattern), Pattern)
                self.assertEqual(pattern.text, text)
                self.assertTrue(is_family(pattern.shifts), text)

    def test_the_text_is_not_written_anew(self):
        # The same pattern by other texts: each keeps its own.
        for text in ("mm" + DOT, "h11" + DOT, "s0,0:" + DOT, f"({DOT}|{DOT})", "[1;0,1;1,0]", "[11;1,0;0,1]"):
            self.assertEqual(read(text).text, text)

    def test_a_refused_call_may_be_made_again(self):
        for text in ("", "m", "[1;1,0;0,13]", FLAT, GREAT):
            first = refusal(read, text)
            self.assertIsNotNone(first)
            self.assertEqual(refusal(read, text), first)
            self.assertEqual(read(DOT).shifts, (1, 1, 0))
            self.assertEqual(refusal(read, text), first)

    def test_two_patterns_are_apart(self):
        one, two, other = read("[12;2,0;1,1]"), read("[12;2,0;1,1]"), read("[3;3,0;0,3]")
        self.assertIsNot(one, two)
        self.assertEqual((one.text, one.shifts), ("[12;2,0;1,1]", (2, 1, 1)))
        self.assertEqual((two.text, two.shifts), ("[12;2,0;1,1]", (2, 1, 1)))
        self.assertEqual((other.text, other.shifts), ("[3;3,0;0,3]", (3, 3, 0)))


if __name__ == "__main__":
    unittest.main()
