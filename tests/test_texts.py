import copy
import random
import unittest

from downrings.errors import NoSky, NoText
from downrings.skies import is_sky
from downrings.texts import read, written
from tests.chance import a_free_sky, a_sky
from tests.samples import ANYTHING, BIG, make_glider, make_meadow, make_sky

RICH = (
    (3, 2, ((3, 4), (10, 6)), ((40, 45), (50, 101))),
    (1, 4),
    ((0, 5, 10, 100, 20, 1, 0), (1, 0, 2, 50, 9, 99, 3), (1, 7, 9, 9, 0, 0, 1)),
    (2, 0, 1),
)
TEXT = (
    "meadow 3 2\n"
    "gaps 3 4\n"
    "gaps 10 6\n"
    "shut 40 45\n"
    "shut 50 101\n"
    "ahead 1 4\n"
    "glider 0 5 10 100 20 1 0\n"
    "glider 1 0 2 50 9 99 3\n"
    "glider 1 7 9 9 0 0 1\n"
    "fixed 2 0 1"
)
ROWS = TEXT.split("\n")


def spelled(sky):
    """The text by point 17's words, sign by sign."""
    (rings, sink, gaps, shuts), ahead, gliders, fixed = sky
    text = "meadow " + str(rings) + " " + str(sink)
    for row in gaps:
        text += "\ngaps"
        for number in row:
            text += " " + str(number)
    for begin, end in shuts:
        text += "\nshut " + str(begin) + " " + str(end)
    if ahead is not None:
        text += "\nahead " + str(ahead[0]) + " " + str(ahead[1])
    for glider in gliders:
        text += "\nglider"
        for number in glider:
            text += " " + str(number)
    for at, number in enumerate(fixed):
        text += ("\nfixed " if at == 0 else " ") + str(number)
    return text


class WrittenTest(unittest.TestCase):
    def told(self, sky, text):
        self.assertTrue(is_sky(sky))
        self.assertEqual(written(sky), text)
        self.assertEqual(read(text), sky)

    def test_all_there_is(self):
        self.told(RICH, TEXT)

    def test_no_gliders(self):
        self.told(make_sky(meadow=(0, 0, ((1,),), ())), "meadow 0 0\ngaps 1")
        self.told(make_sky(meadow=(8, 60, ((99,),), ()), ahead=(0, 9999)), "meadow 8 60\ngaps 99\nahead 0 9999")

    def test_each_part_is_left_out_by_itself(self):
        (rings, sink, gaps, shuts), ahead, gliders, fixed = RICH
        self.told(((rings, sink, gaps, ()), ahead, gliders, fixed), "\n".join(ROWS[:3] + ROWS[5:]))
        self.told(((rings, sink, gaps, shuts), None, gliders, fixed), "\n".join(ROWS[:5] + ROWS[6:]))
        self.told(((rings, sink, gaps, shuts), ahead, (), ()), "\n".join(ROWS[:6]))
        self.told(((rings, sink, gaps, shuts), ahead, gliders[:1], ()), "\n".join(ROWS[:7]))

    def test_as_much_as_there_may_be(self):
        shuts = ((0, 1), (10, 20), (1000, 2000), (9998, 9999))
        gliders = tuple((3, 9000 + g, 9060 + g, 9999, 9999, 99, 8) for g in range(7))
        sky = ((8, 60, ((99,) * 4,) * 4, shuts), (3, 9999), gliders, (6, 5, 4, 3, 2, 1, 0))
        self.told(sky, spelled(sky))
        self.assertEqual(written(sky).count("\n"), 17)

    def test_by_chance(self):
        chance = random.Random(17)
        many = set()
        for turn in range(1500):
            sky = a_sky(chance, 7) if turn % 2 else a_free_sky(chance, chance.randint(0, 7))
            self.told(sky, spelled(sky))
            many.add((len(sky[2]), sky[1] is None, sky[3] == (), sky[0][3] == ()))
        self.assertGreaterEqual(len(many), 7 * 8)

    def test_no_sky(self):
        for thing in ANYTHING + (list(RICH), RICH[:3], TEXT, RICH[:3] + ((2, 0),)):
            with self.subTest(thing=str(thing)[:200]):
                with self.assertRaises(NoSky):
                    written(thing)


class ReadTest(unittest.TestCase):
    def refused(self, thing):
        with self.subTest(thing=str(thing)[:400]):
            with self.assertRaises(NoText):
                read(thing)

    def refused_or_right(self, text):
        """What is read is written just so; else it is refused."""
        try:
            sky = read(text)
        except NoText:
            return False
        self.assertTrue(is_sky(sky), text)
        self.assertEqual(spelled(sky), text)
        return True

    def test_signs_put_in(self):
        right = 0
        for at in range(len(TEXT) + 1):
            for sign in "0159 \t\n-+,abgmz_~.":
                right += self.refused_or_right(TEXT[:at] + sign + TEXT[at:])
            for sign in " \t\n-a":
                self.refused(TEXT[:at] + sign + TEXT[at:])
        self.assertGreater(right, 20)

    def test_signs_left_out(self):
        right = [self.refused_or_right(TEXT[:at] + TEXT[at + 1:]) for at in range(len(TEXT))]
        self.assertTrue(any(right))
        for at, sign in enumerate(TEXT):
            if not sign.isdigit():
                self.refused(TEXT[:at] + TEXT[at + 1:])

    def test_signs_otherwise(self):
        right = 0
        for at in range(len(TEXT)):
            for sign in "0123456789 \t\n-+abz":
                if sign != TEXT[at]:
                    right += self.refused_or_right(TEXT[:at] + sign + TEXT[at + 1:])
                    if not (sign.isdigit() and TEXT[at].isdigit()):
                        self.refused(TEXT[:at] + sign + TEXT[at + 1:])
            if TEXT[at].isalpha():
                self.refused(TEXT[:at] + TEXT[at].upper() + TEXT[at + 1:])
        self.assertGreater(right, 50)

    def test_two_signs_exchanged(self):
        for at in range(len(TEXT) - 1):
            self.refused_or_right(TEXT[:at] + TEXT[at + 1] + TEXT[at] + TEXT[at + 2:])

    def test_rows_twice_left_out_moved_or_exchanged(self):
        for at, row in enumerate(ROWS):
            others = ROWS[:at] + ROWS[at + 1:]
            if row.split()[0] in ("meadow", "gaps", "shut", "ahead", "fixed"):
                self.refused("\n".join(ROWS[:at] + [row, row] + ROWS[at + 1:]))
            if row.split()[0] in ("meadow", "gaps", "glider", "fixed"):
                # Without a glider the fixed ones have a number too great, without fixed ones a ring is wrong.
                self.refused("\n".join(others))
            for to in range(len(ROWS)):
                moved = others[:to] + [row] + others[to:]
                if moved != ROWS:
                    self.refused_or_right("\n".join(moved))
                    if [part.split()[0] for part in moved] != [part.split()[0] for part in ROWS]:
                        self.refused("\n".join(moved))
            for to in range(at):
                exchanged = list(ROWS)
                exchanged[at], exchanged[to] = exchanged[to], exchanged[at]
                if row.split()[0] != ROWS[to].split()[0]:
                    self.refused("\n".join(exchanged))
        self.refused("\n".join(ROWS[::-1]))

    def test_rows_of_one_word_may_stand_in_another_order_only_where_it_is_another_sky(self):
        self.refused("\n".join(ROWS[:3] + [ROWS[4], ROWS[3]] + ROWS[5:]))
        gliders = "\n".join(ROWS[:6] + [ROWS[7], ROWS[6]] + ROWS[8:])
        self.assertEqual(read(gliders), RICH[:2] + ((RICH[2][1], RICH[2][0], RICH[2][2]), RICH[3]))

    def test_rows_left_out_that_may_lack(self):
        for at in (3, 4, 5):
            self.assertTrue(self.refused_or_right("\n".join(ROWS[:at] + ROWS[at + 1:])))

    def test_words_twice_or_left_out(self):
        for at, row in enumerate(ROWS):
            words = row.split(" ")
            for place in range(len(words)):
                twice = words[:place + 1] + words[place:]
                fewer = words[:place] + words[place + 1:]
                for changed in (twice, fewer):
                    text = "\n".join(ROWS[:at] + [" ".join(changed)] + ROWS[at + 1:])
                    # Without its glider 0, whose ring is 0, the fixed ones are those of another sky.
                    self.assertIs(self.refused_or_right(text), changed == ["fixed", "2", "1"], text)

    def test_noughts_ahead_and_signs_of_numbers(self):
        for at, row in enumerate(ROWS):
            words = row.split(" ")
            for place in range(1, len(words)):
                for changed in ("0" + words[place], "00" + words[place], "-" + words[place], "+" + words[place],
                                words[place] + ".0", "0x" + words[place], "_" + words[place], words[place] + ",",
                                "1" * 41, "1" * 40, "0" * 41, "1" * 300):
                    new = words[:place] + [changed] + words[place + 1:]
                    self.refused("\n".join(ROWS[:at] + [" ".join(new)] + ROWS[at + 1:]))

    def test_blanks_and_line_ends_at_an_end(self):
        for text in (TEXT, "meadow 0 0\ngaps 1"):
            for sign in " \n\t":
                self.refused(text + sign)
                self.refused(sign + text)
                self.refused(text + sign + sign)
                for row in text.split("\n"):
                    self.refused(text.replace(row, row + sign))
                    self.refused(text.replace(row, sign + row))

    def test_rows_that_are_right_but_make_no_sky(self):
        for text in (
            "meadow 9 2\ngaps 3", "meadow 3 61\ngaps 3", "meadow 3 2\ngaps 0", "meadow 3 2\ngaps 100",
            "meadow 3 2\ngaps 3 4", "meadow 3 2\ngaps 3\ngaps 4", "meadow 3 2\ngaps 3 9\ngaps 4 3\ngaps 3 4",
            "meadow 3 2\ngaps 3 3 9\ngaps 3 3 3\ngaps 3 3 3", "meadow 3 2\ngaps 3\nshut 5 5", "meadow 3 2\ngaps 3\nshut 5 4",
            "meadow 3 2\ngaps 3\nshut 5 10000", "meadow 3 2\ngaps 3\nshut 5 6\nshut 6 7", "meadow 3 2\ngaps 3\nahead 1 4",
            "meadow 3 2\ngaps 3\nahead 0 10000", "meadow 3 2\ngaps 3\nglider 1 0 2 5 5 5 0",
            "meadow 3 2\ngaps 3\nglider 0 0 1 5 5 5 0", "meadow 3 2\ngaps 3\nglider 0 0 2 1 5 5 0",
            "meadow 3 2\ngaps 3\nglider 0 0 2 5 5 100 0", "meadow 3 2\ngaps 3\nglider 0 0 2 5 5 5 4\nfixed 0",
            "meadow 3 2\ngaps 3\nglider 0 0 2 5 5 5 3", "meadow 3 2\ngaps 3\nglider 0 0 2 5 5 5 0\nfixed 1",
            "meadow 3 2\ngaps 3\nglider 0 0 2 5 5 5 0\nfixed 0 0", "meadow 3 2\ngaps 3\nfixed 0",
            "meadow 3 2", "gaps 3", "meadow 3 2\nshut 5 9", "meadow 3\ngaps 3", "meadow\ngaps 3", "meadow 3 2 1\ngaps 3",
            "meadow 3 2\ngaps", "meadow 3 2\ngaps 3\nshut", "meadow 3 2\ngaps 3\nahead", "meadow 3 2\ngaps 3\nfixed",
            "meadow 3 2\ngaps 3\nglider", "meadow 3 2\ngaps 3\nshut 5", "meadow 3 2\ngaps 3\nshut 1 2 3",
            "meadow 3 2\ngaps 3\nshut 1 2\nshut 4 5\nshut 7 8\nshut 10 11\nshut 13 14",
            "meadow 3 2" + "\ngaps 3 3 3 3 3" * 5, "meadow 3 2\ngaps 3" + "\nglider 0 0 2 5 5 5 0" * 8,
            "meadow 3 2\ngaps 3\nahead 0 4\nahead 0 4", "meadow 3 2\ngaps 3\nahead 0 4\nahead 0 5",
        ):
            self.refused(text)
        self.assertEqual(read("meadow 3 2\ngaps 3" + "\nglider 0 0 2 5 5 5 0" * 7)[2], ((0, 0, 2, 5, 5, 5, 0),) * 7)

    def test_the_empty_text_and_other_words(self):
        for text in ("", " ", "\n", "\t", "meadow", "sky", "none", "0", "meadow 3 2\ngaps 3\nopen 4 5", "Meadow 3 2\ngaps 3",
                     "meadow 3 2\ngap 3", "meadow  3 2\ngaps 3", "meadow 3 2\n\ngaps 3", "meadow 3 2\r\ngaps 3",
                     "meadow 3 2 gaps 3", "meadow 3 2\tgaps 3", "meadow three 2\ngaps 3", "a" * 2000, "0 " * 1000, "\n" * 2000,
                     " " * 2000, "meadow 3 2\ngaps 3\n" + "glider 0 0 2 5 5 5 0\n" * 80):
            self.refused(text)

    def test_figures_of_other_scripts(self):
        for figure in ("\u0663", "\u00b2", "\uff13"):
            self.refused("meadow 3 2\ngaps " + figure)

    def test_what_is_no_text(self):
        for thing in ANYTHING + (RICH, [TEXT], (TEXT,), {TEXT: 1}, ROWS, BIG):
            self.refused(thing)


class PointTwoTest(unittest.TestCase):
    def test_the_same_again(self):
        self.assertEqual(written(RICH), written(RICH))
        self.assertEqual(read(TEXT), read(TEXT))
        self.assertEqual(written(read(TEXT)), TEXT)

    def test_nothing_is_changed_where_it_is_refused(self):
        for thing in ANYTHING + (ROWS, [TEXT]):
            before = copy.deepcopy(thing)
            with self.assertRaises(NoText):
                read(thing)
            with self.assertRaises(NoSky):
                written(thing)
            self.assertEqual(thing, before)

    def test_kinds(self):
        self.assertIsInstance(written(make_sky((make_glider(),), meadow=make_meadow())), str)
        self.assertIsInstance(read(TEXT), tuple)


if __name__ == "__main__":
    unittest.main()
