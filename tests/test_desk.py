import copy
import random
import unittest

from downrings import errors
from downrings.desk import Desk
from downrings.errors import NoMeadow, NoRow, NoWay, RingError
from downrings.tower import Tower
from tests.chance import a_deed, a_tower_meadow
from tests.samples import ANYTHING
from tests.tower_by_words import TowerByWords

MEADOW = "meadow 4 2 3"
THREE = ("comes a 0 0 50 10 1", "comes b 0 0 50 10 1", "comes c 0 0 50 10 1")
QUESTIONS = ("now", "plan", "landed", "rings")
# One row of each sort.
ALL = (MEADOW, "comes d 0 9 50 10 1", "away b", "later b 60", "shut 30 40", "open 30 40", "aim cost", "until 4", "undo") + QUESTIONS
BIGGEST = "9" * 40


def told_by(desk):
    """All that it can be asked, and what undoing all would show."""
    return {row: answer_of(desk, row) for row in QUESTIONS}


def answer_of(desk, row):
    """The answer, or the name of the refusal."""
    try:
        return desk.say(row)
    except RingError as e:
        return type(e).__name__


class DeskTest(unittest.TestCase):
    def made(self, *rows):
        desk = Desk()
        for row in rows:
            self.assertEqual(desk.say(row), "ok", row)
        return desk

    def refused(self, desk, refusal, row):
        """Refused so, with nothing changed by it."""
        with self.subTest(row=str(row)[:200]):
            before, kept = told_by(desk), copy.deepcopy(row)
            with self.assertRaises(getattr(errors, refusal)) as caught:
                desk.say(row)
            self.assertEqual(told_by(desk), before)
            self.assertEqual(row, kept)
            return caught.exception


class RowsTest(DeskTest):
    def told(self, desk, **told):
        for row, answer in told.items():
            self.assertEqual(desk.say(row), answer, row)

    def test_a_new_meadow(self):
        self.told(self.made(MEADOW), now="0", plan="none", landed="none", rings="none")

    def test_none_one_and_several(self):
        desk = self.made(MEADOW)
        desk.say(THREE[0])
        self.told(desk, now="0", plan="a@2", landed="none", rings="none")
        desk.say(THREE[1])
        self.told(desk, now="0", plan="a@2 b@5", landed="none", rings="b:1")
        desk.say(THREE[2])
        self.told(desk, now="0", plan="a@2 b@5 c@8", landed="none", rings="b:1 c:2")
        desk.say("until 3")
        self.told(desk, now="3", plan="b@5 c@8", landed="a@2", rings="c:1")
        desk.say("until 6")
        self.told(desk, now="6", plan="c@8", landed="a@2 b@5", rings="none")
        desk.say("until 9999")
        self.told(desk, now="9999", plan="none", landed="a@2 b@5 c@8", rings="none")

    def test_each_deed(self):
        desk = self.made(MEADOW, *THREE)
        for row, plan in (
            ("away b", "a@2 c@5"), ("undo", "a@2 b@5 c@8"), ("shut 4 20", "a@2 b@20 c@23"), ("later b 20", "a@2 b@20 c@23"),
            ("comes d 0 0 30 0 0", "a@2 b@20 c@23 d@26"), ("undo", "a@2 b@20 c@23"), ("undo", "a@2 b@20 c@23"),
            ("open 4 20", "a@2 b@5 c@8"), ("until 5", "c@8"), ("undo", "a@2 b@5 c@8"), ("undo", "a@2 b@20 c@23"),
            ("undo", "a@2 b@5 c@8"), ("undo", "a@2 b@5"),
        ):
            self.assertEqual(desk.say(row), "ok")
            self.assertEqual(desk.say("plan"), plan, row)

    def test_aim(self):
        desk = self.made(MEADOW, "comes x 0 3 60 5 1", "comes y 0 5 60 7 99")
        self.told(desk, plan="x@5 y@8")
        self.assertEqual(desk.say("aim cost"), "ok")
        self.told(desk, plan="y@7 x@10")
        self.assertEqual(desk.say("aim last"), "ok")
        self.told(desk, plan="x@5 y@8")

    def test_meadows(self):
        for row in ("meadow 0 0 1", "meadow 8 60 99", "meadow 3 2 3,4/5,6", "meadow 3 2 1,1,1/1,1,1/1,1,1",
                    "meadow 3 2 9,9,9,9/9,9,9,9/9,9,9,9/9,9,9,9"):
            self.assertEqual(Desk().say(row), "ok")

    def test_the_numbers_of_a_meadow_are_at_their_places(self):
        desk = self.made("meadow 2 7 3,5/6,4", "comes a 0 0 50 0 0", "comes b 1 0 50 0 0", "comes c 0 0 50 0 0")
        self.told(desk, plan="a@7 b@12 c@18", rings="b:1 c:2")
        self.assertEqual(answer_of(desk, "comes d 0 0 50 0 0"), "NoWay")
        self.assertEqual(answer_of(desk, "comes d 2 0 50 0 0"), "NoGlider")

    def test_a_meadow_is_never_shut(self):
        desk = self.made(MEADOW)
        for row in ("shut 0 1", "shut 2 3", "shut 4 5", "shut 6 7"):
            self.assertEqual(desk.say(row), "ok")
        self.refused(desk, "TooMany", "shut 8 9")

    def test_a_meadow_told_again_begins_all_anew(self):
        desk = self.made(MEADOW, *THREE, "aim cost", "until 4", "shut 9 12", MEADOW)
        self.told(desk, now="0", plan="none", landed="none", rings="none")
        self.refused(desk, "NoDeed", "undo")
        self.assertEqual(desk.say("comes a 0 0 50 10 1"), "ok")
        # Neither the aim nor the stretch has stayed.
        self.assertEqual(desk.say("shut 9 12"), "ok")
        for row in ("comes x 0 13 60 15 1", "comes y 0 15 60 17 99"):
            desk.say(row)
        self.told(desk, plan="a@2 x@15 y@18")

    def test_words_with_a_tab_or_a_line_end(self):
        desk = self.made(MEADOW, *THREE)
        for word in ("a\tb", "a\n", "\n", "\t", "b\t", "\nb", "A", "0", "-", "@", "a,b", "x" * 1000, "meadow", "12", "ok", "none"):
            if word not in ("meadow", "ok", "none"):
                self.refused(desk, "NoName", "comes " + word + " 0 0 50 10 1")
            self.refused(desk, "NoName", "away " + word)
            self.refused(desk, "NoName", "later " + word + " 60")
            self.refused(desk, "NoAim", "aim " + word)

    def test_the_tower_s_refusals(self):
        desk = self.made(MEADOW, *THREE, "shut 30 40")
        for row, refusal in (
            ("comes a 0 0 50 10 1", "NoName"), ("comes abcdefghi 0 0 50 10 1", "NoName"), ("comes d 1 0 50 10 1", "NoGlider"),
            ("comes d 0 9 10 10 1", "NoGlider"), ("comes d 0 0 10000 10 1", "NoGlider"), ("comes d 0 0 50 10000 1", "NoGlider"),
            ("comes d 0 0 50 10 100", "NoGlider"), ("comes d 0 0 5 10 1", "NoWay"), ("away d", "NoName"), ("away a", "Bound"),
            ("later d 50", "NoName"), ("later a 50", "Bound"), ("later b 1", "NoMinute"), ("later b 10000", "NoMinute"),
            ("later b 4", "NoWay"), ("shut 40 50", "NoMinute"), ("shut 9 9", "NoMinute"), ("shut 9 10000", "NoMinute"),
            ("shut 2 3", "NoWay"), ("open 30 39", "NoMinute"), ("open 9 10", "NoMinute"), ("aim most", "NoAim"),
            ("until 10000", "NoMinute"), ("until " + BIGGEST, "NoMinute"), ("comes d " + BIGGEST + " 0 50 10 1", "NoGlider"),
            ("shut 9 " + BIGGEST, "NoMinute"), ("open " + BIGGEST + " 9", "NoMinute"), ("later b " + BIGGEST, "NoMinute"),
        ):
            self.refused(desk, refusal, row)
        self.assertEqual(self.refused(desk, "NoWay", "comes d 0 0 5 10 1").stuck, ("a", "b", "d"))
        desk.say("until 4")
        for row, refusal in (("until 3", "NoMinute"), ("shut 3 5", "NoMinute"), ("comes d 0 3 50 10 1", "NoGlider")):
            self.refused(desk, refusal, row)
        for row in ("shut 50 51", "shut 53 54", "shut 56 57"):
            desk.say(row)
        self.refused(desk, "TooMany", "shut 60 61")
        full = self.made("meadow 8 2 3", *["comes " + name + " 0 0 50 10 1" for name in "abcdefg"])
        self.refused(full, "TooMany", "comes h 0 0 50 10 1")


class NoRowTest(DeskTest):
    def setUp(self):
        self.desks = (Desk(), self.made(MEADOW, *THREE, "shut 30 40"))

    def none(self, row):
        """No row, be there a meadow or none."""
        for desk in self.desks:
            self.refused(desk, "NoRow", row)

    def test_all_are_rows(self):
        for row in ALL:
            self.assertNotEqual(answer_of(self.desks[0], row), "NoRow")

    def test_words_too_many_or_too_few(self):
        for row in ALL:
            words = row.split(" ")
            for at in range(len(words)):
                self.none(" ".join(words[:at] + words[at + 1:]))
                self.none(" ".join(words[:at + 1] + words[at:]))
            for word in ("0", "a", "now"):
                self.none(row + " " + word)
                self.none(word + " " + row)

    def test_two_blanks_blanks_at_an_end_tabs_and_line_ends(self):
        for row in ALL:
            for sign in (" ", "  "):
                self.none(sign + row)
                self.none(row + sign)
            for at, sign in enumerate(row):
                if sign == " ":
                    for other in ("  ", "\t", "\n", " \t ", "", ","):
                        self.none(row[:at] + other + row[at + 1:])
            for sign in ("\t", "\n"):
                self.none(sign + row)
                if row.split(" ")[0] not in ("away", "aim"):
                    self.none(row + sign)

    def test_other_words(self):
        for row in ("", " ", "  ", "\n", "\t", "a", "0", "ok", "none", "sky", "names", "aimed", "opened 30 40", "Now", "NOW", "now.",
                    "nows", "no", "say now", "meadow", "comes", "away", "later", "shut", "open", "aim", "until", "Meadow 4 2 3",
                    "undo 1", "now 0", "plan a", "landed a", "rings a", "x" * 2000, "now " * 400, "now\nplan", "now plan"):
            self.none(row)

    def test_numbers(self):
        for row in ALL:
            words = row.split(" ")
            for at, word in enumerate(words):
                if not word.isdigit():
                    continue
                for other in ("0" + word, "00" + word, "-" + word, "+" + word, word + ".", word + "\t", word + "\n", "x", "one", "",
                              "0x1", "1_0", "1e3", "1" * 41, "9" * 41, "0" * 40, "9" * 500, "\t" + word, "None", "True", "@", word + "@5",
                              "\u0663", "\u00b2"):
                    self.none(" ".join(words[:at] + [other] + words[at + 1:]))

    def test_numbers_of_forty_figures_are_some(self):
        for number in (BIGGEST, "1" + "0" * 39):
            for row in ("comes d " + number + " 0 50 10 1", "later b " + number, "shut 50 " + number, "open 0 " + number,
                        "until " + number, "meadow " + number + " 2 3", "meadow 4 " + number + " 3", "meadow 4 2 " + number):
                for desk in self.desks:
                    self.assertNotIn(answer_of(desk, row), ("NoRow", "ok"))

    def test_gaps(self):
        for gaps in ("", ",", "/", "3,", ",3", "3/", "/3", "3,,4/5,6", "3,4//5,6", "3,4/5,", "3,4/,6", "3;4/5;6", "3,4\\5,6", "3.4",
                     "a", "3,a/5,6", "03", "3,04/5,6", "-3", "+3", "3,-4/5,6", "3,4/5,6/", "1" * 41, "3," + "1" * 41 + "/5,6", "3\t",
                     "3,4/5,6\n", "(3)", "[3]", "3,4/5,6,", "3, 4/5,6", "3,4 /5,6", "none", "3,\t4/5,6"):
            self.none("meadow 4 2 " + gaps)

    def test_what_is_no_text(self):
        for thing in ANYTHING + (["now"], ("now",), {"now": 1}, [MEADOW], list("now")):
            self.none(thing)


class NoMeadowTest(DeskTest):
    def test_a_meadow_that_is_none(self):
        for desk in (Desk(), self.made(MEADOW, *THREE, "until 4")):
            for row in (
                "meadow 9 2 3", "meadow 4 61 3", "meadow 4 2 0", "meadow 4 2 100", "meadow 4 2 3,4", "meadow 4 2 3/4",
                "meadow 4 2 3,4/5", "meadow 4 2 3/4,5", "meadow 4 2 3,4/5,6/7,8", "meadow 4 2 3,4,5/5,6",
                # From kind 0 to kind 1 it is less by kind 2.
                "meadow 4 2 3,9,3/3,3,3/3,5,3", "meadow 4 2 " + "/".join(["3,3,3,3,3"] * 5), "meadow 4 2 3,3,3,3,3",
                "meadow " + BIGGEST + " 2 3", "meadow 4 " + BIGGEST + " 3", "meadow 4 2 " + BIGGEST, "meadow 4 2 3,0/5,6",
            ):
                self.refused(desk, "NoMeadow", row)
        self.assertEqual(Desk().say("meadow 4 2 3,8,3/3,3,3/3,5,3"), "ok")

    def test_each_row_ahead_of_a_meadow(self):
        desk = Desk()
        for row in ALL[1:] + ("comes A 9 9999 0 10000 100", "away \t", "later - 0", "aim x", "until " + BIGGEST, "shut 9 3"):
            self.refused(desk, "NoMeadow", row)
        for row in ("meadow 9 2 3", "meadow 4 2 3,4"):
            self.refused(desk, "NoMeadow", row)
            self.refused(desk, "NoMeadow", "now")
        self.assertEqual(desk.say(MEADOW), "ok")
        self.assertEqual(desk.say("now"), "0")

    def test_no_row_goes_first(self):
        for row in ("later b", "until -1", "comes d 0 0 50 10", "now 1", "meadow 9 2 x", "meadow 9 2", "open 1 02"):
            self.refused(Desk(), "NoRow", row)

    def test_a_refused_meadow_leaves_the_tower(self):
        desk = self.made(MEADOW, *THREE, "until 4")
        self.refused(desk, "NoMeadow", "meadow 9 2 3")
        self.refused(desk, "NoRow", "meadow 4 2 3,")
        self.assertEqual(desk.say("undo"), "ok")
        self.assertEqual(desk.say("now"), "0")
        self.assertEqual(desk.say("plan"), "a@2 b@5 c@8")


class WalkTest(unittest.TestCase):
    def rows_of(self, deed):
        word = {"opened": "open"}.get(deed[0], deed[0])
        return " ".join([word] + [str(part) for part in deed[1:]])

    def test_a_desk_tells_what_its_tower_tells(self):
        chance = random.Random(21)
        for turn in range(120):
            rings, sink, gaps, shuts = a_tower_meadow(chance)
            tower, words, desk = Tower((rings, sink, gaps, ())), TowerByWords((rings, sink, gaps, ())), Desk()
            rows = "/".join(",".join(str(gap) for gap in row) for row in gaps)
            self.assertEqual(desk.say(f"meadow {rings} {sink} {rows}"), "ok")
            for step in range(30):
                deed = a_deed(chance, words, "abcdefgh")
                refusal = words.do(*deed)
                if any(part < 0 for part in deed[1:] if isinstance(part, int)):
                    refusal = "NoRow"
                else:
                    self.tower_does(tower, deed)
                self.desk_says(desk, self.rows_of(deed), refusal)
                self.assertEqual(desk.say("now"), str(tower.now()))
                self.assertEqual(desk.say("plan"), " ".join(f"{n}@{m}" for n, m in tower.plan()) or "none")
                self.assertEqual(desk.say("landed"), " ".join(f"{n}@{m}" for n, m in tower.landed()) or "none")
                self.assertEqual(desk.say("rings"), " ".join(f"{n}:{r}" for n, r in tower.rings()) or "none")

    def tower_does(self, tower, deed):
        try:
            getattr(tower, deed[0])(*deed[1:])
        except RingError:
            pass

    def desk_says(self, desk, row, refusal):
        if refusal is None:
            self.assertEqual(desk.say(row), "ok")
        elif isinstance(refusal, tuple):
            with self.assertRaises(NoWay) as caught:
                desk.say(row)
            self.assertEqual(("NoWay", caught.exception.stuck), refusal)
        else:
            with self.assertRaises(getattr(errors, refusal)):
                desk.say(row)


class PointTwoTest(DeskTest):
    def test_two_desks_have_nothing_in_common(self):
        one, other = Desk(), Desk()
        one.say(MEADOW)
        with self.assertRaises(NoMeadow):
            other.say("now")
        other.say(MEADOW)
        for row in THREE + ("until 4", "shut 9 12"):
            one.say(row)
        self.assertEqual(told_by(other), {"now": "0", "plan": "none", "landed": "none", "rings": "none"})
        with self.assertRaises(errors.NoDeed):
            other.say("undo")
        one.say(MEADOW)
        other.say(THREE[0])
        self.assertEqual(one.say("plan"), "none")

    def test_asking_changes_nothing(self):
        desk = self.made(MEADOW, *THREE)
        for row in QUESTIONS:
            self.assertEqual(desk.say(row), desk.say(row))
            self.assertIsInstance(desk.say(row), str)
        desk.say("undo")
        self.assertEqual(desk.say("plan"), "a@2 b@5")

    def test_no_row_is_a_ring_error(self):
        with self.assertRaises(NoRow):
            Desk().say(None)


if __name__ == "__main__":
    unittest.main()
