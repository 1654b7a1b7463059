"""The floor: `Floor` with `lay`, `change`, `undo`, `kept`, `rows`, `lies` and `still`."""

import random
import unittest

from motiffield.counts import count_all
from motiffield.errors import NoRow, NothingKept, OneLine, Parted, TooGreat, WrongSign
from motiffield.floor import Floor
from motiffield.reader import read
from patterns import GREAT_TREES, PLAIN, SlowFloor, drawn_folded, holes, over
from texts import motif, refusal, written

CHECKED = "[12;2,0;1,1]"
BAD = {
    "": ("WrongSign", 0),
    "m": ("WrongSign", 1),
    "[1;1,0;0,13]": ("WrongSign", 10),
    CHECKED + "m": ("WrongSign", 12),
    " " + CHECKED: ("WrongSign", 0),
    "[1;1,2;2,4]": ("OneLine", 0),
    f"({CHECKED}|m[1;0,0;1,1])": ("OneLine", 15),
    "([1;12,5;1,9]|[1;7,0;0,1])": ("TooGreat",),
}


def seen(floor):
    """All that a floor tells without a deed."""
    return (floor.text, floor.width, floor.height, floor.rows(), floor.lies(), floor.still(), floor.kept())


def twelve(rows):
    """A tree of twelve rows that begin anew below the last one."""
    width = len(rows[0])
    upper = ("motif", tuple(rows[:8]), (width, 0), (0, 12))
    return over(upper, ("shift", 0, 8, ("motif", tuple(rows[8:]), (width, 0), (0, 12))))


def kin(chance):
    """Trees that tell one pattern, and others that part from it at one row, or at several."""
    width = chance.choice((1, 2, 3, 4, 6))
    rows = ["".join(chance.choices(".123456", k=width)) for _ in range(12)]
    tree = twelve(rows)
    trees = [tree, ("mirror", ("mirror", tree)), ("shift", 12, -12, tree), ("hue", 4, 4, tree)]
    for y in range(12):
        x = chance.randrange(width)
        sign = chance.choice([sign for sign in ".123456" if sign != rows[y][x]])
        other = rows[y][:x] + sign + rows[y][x + 1:]
        trees.append(twelve(rows[:y] + [other] + rows[y + 1:]))
        trees.append(twelve(rows[:y] + [other] * (12 - y)))
    return trees


class New(unittest.TestCase):
    def test_nothing_is_laid_and_kept(self):
        floor = Floor(CHECKED, 3, 2)
        self.assertEqual(seen(floor), (CHECKED, 3, 2, [], [0] * 7, [0, 3, 3, 0, 0, 0, 0], 0))
        self.assertEqual(refusal(floor.undo), ("NothingKept",))

    def test_bad_texts(self):
        for text, refused in BAD.items():
            with self.subTest(text):
                self.assertEqual(refusal(Floor, text, 3, 2), refused)
                self.assertEqual(refusal(read, text), refused)
        for text, error in (("m", WrongSign), ("[1;1,2;2,4]", OneLine), ("([1;12,5;1,9]|[1;7,0;0,1])", TooGreat)):
            with self.assertRaises(error) as caught:
                Floor(text, 1, 1)
            self.assertIs(type(caught.exception), error)

    def test_every_size(self):
        for width in range(1, 31):
            for height in range(1, 31):
                floor = Floor(CHECKED, width, height)
                rows = [("12" * 16)[y % 2:][:width] for y in range(height)]
                self.assertEqual(floor.lay(height), rows)
                self.assertEqual(floor.rows(), rows)
                self.assertEqual((floor.width, floor.height, floor.still()), (width, height, [0] * 7))
                self.assertEqual(sum(floor.lies()), width * height)
                self.assertEqual(refusal(floor.lay), ("NoRow",))

    def test_sizes_somewhat_beyond_the_range(self):
        floor = Floor(CHECKED, 33, 41)
        self.assertEqual(floor.lay(40), [("12" * 17)[y % 2:][:33] for y in range(40)])
        self.assertEqual(floor.still(), [0, 17, 16, 0, 0, 0, 0])
        floor = Floor(CHECKED, 0, 2)
        self.assertEqual(floor.lay(2), ["", ""])
        self.assertEqual((floor.lies(), floor.still()), ([0] * 7, [0] * 7))

    def test_the_text_is_not_written_anew(self):
        for text in ("mm" + CHECKED, "h11" + CHECKED, f"({CHECKED}|{CHECKED})"):
            self.assertEqual(Floor(text, 2, 2).text, text)


class Lay(unittest.TestCase):
    def test_cells_lie_from_nought_on(self):
        floor = Floor("[123/456;3,0;0,2]", 4, 5)
        self.assertEqual(floor.lay(), ["1231"])
        self.assertEqual(floor.lay(2), ["4564", "1231"])
        self.assertEqual(floor.rows(), ["1231", "4564", "1231"])
        self.assertEqual(floor.lay(1), ["4564"])
        self.assertEqual(floor.lay(1), ["1231"])
        self.assertEqual(floor.rows(), ["1231", "4564", "1231", "4564", "1231"])
        self.assertEqual(floor.kept(), 4)

    def test_gaps_are_laid_bare(self):
        floor = Floor("[1.;2,0;0,2]", 3, 3)
        self.assertEqual(floor.lay(3), ["1.1", "...", "1.1"])
        self.assertEqual((floor.lies(), floor.still()), ([5, 4, 0, 0, 0, 0, 0], [0] * 7))

    def test_all_rows_left_and_one_more(self):
        for height in (1, 2, 7, 30):
            for laid in range(height + 1):
                floor = Floor(CHECKED, 2, height)
                if laid:
                    floor.lay(laid)
                before = seen(floor)
                for many in (height - laid + 1, height - laid + 2, 30 + height):
                    self.assertEqual(refusal(floor.lay, many), ("NoRow",))
                    self.assertEqual(seen(floor), before)
                if laid < height:
                    self.assertEqual(floor.lay(height - laid), [("12", "21")[y % 2] for y in range(laid, height)])
                self.assertEqual(refusal(floor.lay), ("NoRow",))
                self.assertEqual(len(floor.rows()), height)

    def test_class(self):
        with self.assertRaises(NoRow) as caught:
            Floor(CHECKED, 2, 2).lay(3)
        self.assertIs(type(caught.exception), NoRow)

    def test_somewhat_below_the_range(self):
        floor = Floor(CHECKED, 2, 3)
        floor.lay(2)
        for many in (0, -1, -5):
            self.assertEqual(floor.lay(many), [])
            self.assertEqual(floor.rows(), ["12", "21"])
        self.assertEqual(floor.kept(), 4)

    def test_kinds(self):
        floor = Floor(CHECKED, 2, 3)
        for rows in (floor.lay(), floor.lay(2), floor.rows()):
            self.assertIs(type(rows), list)
            self.assertEqual({type(row) for row in rows}, {str})
        for counts in (floor.lies(), floor.still()):
            self.assertIs(type(counts), list)
            self.assertEqual([type(number) for number in counts], [int] * 7)
        self.assertIs(type(floor.kept()), int)


class Change(unittest.TestCase):
    def test_any_good_text_where_no_row_is_laid(self):
        floor = Floor(CHECKED, 4, 4)
        for many, text in enumerate(("[3;1,0;0,1]", "[.;5,0;0,5]", "t[123;3,0;0,1]", CHECKED), start=1):
            self.assertIsNone(floor.change(text))
            self.assertEqual((floor.text, floor.rows(), floor.kept()), (text, [], many))
            self.assertEqual(floor.still(), count_all(read(text), 0, 0, 3, 3))

    def test_the_same_text(self):
        floor = Floor(CHECKED, 4, 4)
        floor.lay(2)
        self.assertIsNone(floor.change(CHECKED))
        self.assertEqual((floor.text, floor.rows(), floor.kept()), (CHECKED, ["1212", "2121"], 2))
        self.assertEqual((floor.undo(), floor.kept(), floor.text), ("change", 1, CHECKED))

    def test_another_text_with_the_same_rows(self):
        floor = Floor(CHECKED, 4, 6)
        floor.lay(2)
        self.assertIsNone(floor.change("[12/21/33;2,0;0,3]"))
        self.assertEqual(floor.text, "[12/21/33;2,0;0,3]")
        self.assertEqual(floor.rows(), ["1212", "2121"])
        self.assertEqual((floor.lies(), floor.still()), ([0, 4, 4, 0, 0, 0, 0], [0, 4, 4, 8, 0, 0, 0]))
        self.assertEqual(floor.lay(2), ["3333", "1212"])
        self.assertEqual(refusal(floor.change, CHECKED), ("Parted", 0, 2))

    def test_the_cells_beside_the_floor_do_not_matter(self):
        floor = Floor("[12345;5,0;0,1]", 3, 2)
        floor.lay(1)
        self.assertIsNone(floor.change("[123;7,0;0,4]"))
        self.assertIsNone(floor.change("[123666/...555;6,0;0,2]"))
        self.assertEqual(refusal(floor.change, "[12;2,0;0,1]"), ("Parted", 2, 0))

    def test_the_first_cell_by_rows(self):
        floor = Floor("[123/456;3,0;0,2]", 3, 4)
        self.assertIsNone(refusal(floor.lay, 3))
        for text, x, y in (
            ("[223/456;3,0;0,2]", 0, 0), ("[126/456;3,0;0,2]", 2, 0), ("[124/356;3,0;0,2]", 2, 0),
            ("[123/156;3,0;0,2]", 0, 1), ("[123/45.;3,0;0,2]", 2, 1), ("[123/4.5;3,0;0,2]", 1, 1),
            ("[123/456/121;3,0;0,3]", 2, 2), ("[123/456/.23;3,0;0,3]", 0, 2), ("[.;1,0;0,1]", 0, 0),
        ):
            before = seen(floor)
            self.assertEqual(refusal(floor.change, text), ("Parted", x, y), text)
            self.assertEqual(seen(floor), before)
        # The fourth row is not laid.
        self.assertIsNone(floor.change("[123/456/123/111;3,0;0,4]"))

    def test_a_gap_is_not_anything(self):
        floor = Floor("[1.;2,0;0,1]", 4, 2)
        floor.lay()
        self.assertEqual(refusal(floor.change, "[12;2,0;0,1]"), ("Parted", 1, 0))
        floor = Floor("[12;2,0;0,1]", 4, 2)
        floor.lay()
        self.assertEqual(refusal(floor.change, "[1.;2,0;0,1]"), ("Parted", 1, 0))

    def test_the_last_cell_alone(self):
        plain, hole = written(PLAIN), written(("shift", -10, 0, holes(motif("2", (1, 0), (0, 1)))))
        floor = Floor(plain, 30, 18)
        floor.lay(17)
        self.assertIsNone(floor.change(hole))
        self.assertEqual(floor.lay(), ["1" * 29 + "2"])
        self.assertEqual(refusal(floor.change, plain), ("Parted", 29, 17))
        self.assertEqual(floor.lies(), [0, 539, 1, 0, 0, 0, 0])

    def test_class_and_fields(self):
        floor = Floor(CHECKED, 3, 3)
        floor.lay(2)
        with self.assertRaises(Parted) as caught:
            floor.change("[12/22;2,0;0,2]")
        self.assertIs(type(caught.exception), Parted)
        self.assertEqual((caught.exception.x, caught.exception.y), (1, 1))
        self.assertEqual([type(caught.exception.x), type(caught.exception.y)], [int, int])

    def test_bad_texts_change_nothing(self):
        for laid in (0, 1, 3):
            floor = Floor(CHECKED, 3, 3)
            if laid:
                floor.lay(laid)
            before = seen(floor)
            for _ in range(2):
                for text, refused in BAD.items():
                    self.assertEqual(refusal(floor.change, text), refused)
                    self.assertEqual(seen(floor), before)
            self.assertIsNone(floor.change("mm" + CHECKED))


class Undo(unittest.TestCase):
    def test_each_kind(self):
        floor = Floor(CHECKED, 2, 6)
        states = [seen(floor)]
        words = []
        for word, handed in (
            ("lay", 2), ("change", "[12/21/33;2,0;0,3]"), ("lay", 1), ("change", "[12/21/33/44;2,0;0,4]"),
            ("change", "[12/21/33/44;2,0;0,4]"), ("lay", 3), ("change", "mm[12/21/33/44;2,0;0,4]"),
        ):
            (floor.lay if word == "lay" else floor.change)(handed)
            words.append(word)
            states.append(seen(floor))
        while words:
            self.assertEqual(seen(floor), states.pop())
            self.assertEqual(floor.undo(), words.pop())
        self.assertEqual(seen(floor), states.pop())
        self.assertEqual(refusal(floor.undo), ("NothingKept",))

    def test_class(self):
        with self.assertRaises(NothingKept) as caught:
            Floor(CHECKED, 2, 2).undo()
        self.assertIs(type(caught.exception), NothingKept)

    def test_it_is_no_deed_and_nothing_is_done_again(self):
        floor = Floor(CHECKED, 2, 6)
        floor.lay(2)
        floor.lay(3)
        self.assertEqual((floor.undo(), floor.kept(), len(floor.rows())), ("lay", 1, 2))
        self.assertEqual((floor.undo(), floor.kept(), len(floor.rows())), ("lay", 0, 0))
        for _ in range(3):
            self.assertEqual(refusal(floor.undo), ("NothingKept",))
            self.assertEqual((floor.kept(), floor.rows(), floor.text), (0, [], CHECKED))

    def test_twenty_are_kept(self):
        floor = Floor(CHECKED, 2, 30)
        for many in range(1, 31):
            floor.lay()
            self.assertEqual(floor.kept(), min(many, 20))
        for many in range(19, -1, -1):
            self.assertEqual(floor.undo(), "lay")
            self.assertEqual((floor.kept(), len(floor.rows())), (many, 10 + many))
        self.assertEqual(refusal(floor.undo), ("NothingKept",))
        self.assertEqual(len(floor.rows()), 10)

    def test_changes_count_like_lays(self):
        floor = Floor("[1;1,0;0,1]", 2, 3)
        for turn in range(50):
            floor.change(f"[{turn % 6 + 1};1,0;0,1]")
            self.assertEqual(floor.kept(), min(turn + 1, 20))
        for turn in range(48, 28, -1):
            self.assertEqual((floor.undo(), floor.text), ("change", f"[{turn % 6 + 1};1,0;0,1]"))
        self.assertEqual(refusal(floor.undo), ("NothingKept",))

    def test_a_forgotten_deed_stays_forgotten(self):
        floor = Floor(CHECKED, 2, 30)
        floor.lay(2)
        for _ in range(20):
            floor.change(CHECKED)
        # The laying is forgotten, also when others are undone and done since.
        for _ in range(5):
            floor.undo()
        self.assertEqual(floor.kept(), 15)
        for _ in range(3):
            floor.lay()
        self.assertEqual(floor.kept(), 18)
        for _ in range(3):
            self.assertEqual(floor.undo(), "lay")
        for _ in range(15):
            self.assertEqual(floor.undo(), "change")
        self.assertEqual(refusal(floor.undo), ("NothingKept",))
        self.assertEqual(floor.rows(), ["12", "21"])

    def test_refused_calls_are_no_deeds(self):
        floor = Floor(CHECKED, 2, 2)
        floor.lay(2)
        for _ in range(30):
            self.assertEqual(refusal(floor.lay), ("NoRow",))
            self.assertEqual(refusal(floor.change, "[1;1,0;0,1]"), ("Parted", 1, 0))
            self.assertEqual(refusal(floor.change, "m"), ("WrongSign", 1))
        self.assertEqual((floor.kept(), floor.undo()), (1, "lay"))

    def test_rows_may_be_laid_otherwise_behind_an_undoing(self):
        floor = Floor("[1;1,0;0,1]", 2, 2)
        floor.lay(2)
        self.assertEqual(refusal(floor.change, "[2;1,0;0,1]"), ("Parted", 0, 0))
        floor.undo()
        self.assertIsNone(floor.change("[2;1,0;0,1]"))
        self.assertEqual(floor.lay(), ["22"])
        self.assertEqual((floor.lies(), floor.still()), ([0, 0, 2, 0, 0, 0, 0], [0, 0, 2, 0, 0, 0, 0]))


class AgainstTheSlowFloor(unittest.TestCase):
    def hold(self, floor, slow):
        whole = count_all(read(floor.text), 0, 0, slow.width - 1, slow.height - 1)
        told = seen(floor)
        expected = (
            written(slow.tree), slow.width, slow.height, slow.laid, slow.lies(), slow.still(), len(slow.deeds),
        )
        self.assertEqual(told, expected)
        self.assertEqual([one + two for one, two in zip(floor.lies(), floor.still())], whole)

    def done(self, call, *handed):
        """What a call tells, or how it is refused."""
        try:
            return call(*handed)
        except (NoRow, Parted, NothingKept) as error:
            return (type(error).__name__, *vars(error).values())

    def turn(self, chance, floor, slow, trees):
        """One deed or undoing, on both floors; tells what came of it."""
        draw = chance.random()
        if draw < 0.3:
            many = chance.choice((1, 1, 1, 2, 3, chance.randint(1, 30)))
            pair = self.done(floor.lay, many), slow.lay(many)
        elif draw < 0.4:
            pair = self.done(floor.lay), slow.lay()
        elif draw < 0.8:
            tree = chance.choice(trees)
            pair = self.done(floor.change, written(tree)), slow.change(tree)
        else:
            pair = self.done(floor.undo), slow.undo()
        self.assertEqual(*pair)
        return pair[0][0] if type(pair[0]) is tuple else "done"

    def test_drawn_deeds(self):
        chance = random.Random(61)
        met = {}
        for _ in range(40):
            trees = kin(chance)
            size = chance.randint(1, 30), chance.randint(1, 30)
            slow = SlowFloor(trees[0], *size)
            floor = Floor(written(trees[0]), *size)
            for _ in range(60):
                came = self.turn(chance, floor, slow, trees)
                met[came] = met.get(came, 0) + 1
                self.hold(floor, slow)
            while slow.deeds:
                self.assertEqual(floor.undo(), slow.undo())
                self.hold(floor, slow)
            self.assertEqual(refusal(floor.undo), ("NothingKept",))
        self.assertGreater(min(met["done"], met["NoRow"], met["Parted"], met["NothingKept"]), 5)

    def test_drawn_texts_and_great_ones(self):
        chance = random.Random(62)
        for tree in [drawn_folded(chance) for _ in range(20)] + GREAT_TREES:
            size = chance.randint(1, 30), chance.randint(1, 30)
            slow = SlowFloor(tree, *size)
            floor = Floor(written(tree), *size)
            others = [tree, ("shift", 1, 0, tree), ("mirror", tree), ("hue", 1, 2, tree), PLAIN]
            for _ in range(12):
                self.turn(chance, floor, slow, others)
                self.hold(floor, slow)


class Apart(unittest.TestCase):
    def test_told_lists_are_the_callers_own(self):
        floor = Floor(CHECKED, 3, 4)
        laid = floor.lay(2)
        before = seen(floor)
        for told in (laid, floor.rows(), floor.lies(), floor.still()):
            told[0] = "?"
            told.append("!")
            told.reverse()
            self.assertEqual(seen(floor), before)
            told.clear()
            self.assertEqual(seen(floor), before)
        self.assertIsNot(floor.rows(), floor.rows())
        self.assertEqual(floor.lay(), ["121"])
        floor.undo()
        self.assertEqual(seen(floor), before)

    def test_two_floors_are_apart(self):
        one, two = Floor(CHECKED, 3, 4), Floor(CHECKED, 3, 4)
        fresh = seen(two)
        one.lay(3)
        one.change("mm" + CHECKED)
        self.assertEqual(seen(two), fresh)
        self.assertEqual(refusal(two.undo), ("NothingKept",))
        two.change("[3;1,0;0,1]")
        self.assertEqual((one.text, one.rows(), one.kept()), ("mm" + CHECKED, ["121", "212", "121"], 2))
        self.assertEqual(two.lay(), ["333"])
        one.undo()
        one.undo()
        self.assertEqual((two.text, two.rows(), two.kept()), ("[3;1,0;0,1]", ["333"], 2))
        self.assertEqual(seen(one), fresh)

    def test_a_refused_making_leaves_no_trace(self):
        for text, refused in BAD.items():
            self.assertEqual(refusal(Floor, text, 3, 4), refused)
            self.assertEqual(seen(Floor(CHECKED, 3, 4)), (CHECKED, 3, 4, [], [0] * 7, [0, 6, 6, 0, 0, 0, 0], 0))


if __name__ == "__main__":
    unittest.main()
