"""Many deeds in a row, done to a tower and to one that is told by the points' words."""

import collections
import copy
import random
import unittest

from downrings.errors import NoWay, RingError
from downrings.landings import keeps
from downrings.skies import is_sky
from downrings.tower import Tower
from tests.chance import a_deed, a_tower_meadow
from tests.tower_by_words import TowerByWords, best_of

ASKED = ("now", "sky", "names", "aimed", "plan", "landed", "rings")
MANY = "abcdefghijkl"


def tells(tower):
    return {word: getattr(tower, word)() for word in ASKED}


def refusal_of(tower, deed):
    """None where the deed is done, else the name of the refusal, of NoWay a tuple with the names."""
    try:
        told = getattr(tower, deed[0])(*deed[1:])
    except NoWay as e:
        return ("NoWay", e.stuck)
    except RingError as e:
        return type(e).__name__
    assert told is None
    return None


class WalkTest(unittest.TestCase):
    def walk(self, chance, steps, letters, look):
        """Goes on with a tower and its words, and looks behind each deed at what it told before and what it tells."""
        meadow = a_tower_meadow(chance)
        tower, words = Tower(meadow), TowerByWords(meadow)
        before = tells(tower)
        for step in range(steps):
            deed = a_deed(chance, words, letters)
            refusal = words.do(*deed)
            self.assertEqual(refusal_of(tower, deed), refusal, (meadow, deed))
            after = tells(tower)
            look(tower, words, deed, refusal, before, after)
            before = after

    def test_against_the_words(self):
        chance = random.Random(18)
        seen = collections.Counter()

        def look(tower, words, deed, refusal, before, after):
            self.assertEqual(after, words.tells(), deed)
            self.assertTrue(is_sky(after["sky"]))
            if refusal is not None:
                self.assertEqual(after, before)
            seen[deed[0], refusal[0] if isinstance(refusal, tuple) else refusal] += 1
            seen[len(after["names"])] += 1
            seen["unjoined"] += any(after["sky"][2][g][1] > after["now"] for g in after["sky"][3])
            seen["ring"] += any(ring > 2 for name, ring in after["rings"])

        for turn in range(700):
            self.walk(chance, 40, MANY[:chance.choice((3, 5, 7, 9, 12, 12))], look)
        self.assertGreater(min(seen.values()), 4, seen)
        self.assertEqual(set(seen), set(range(8)) | {"unjoined", "ring"} | {
            ("comes", None), ("comes", "NoName"), ("comes", "NoGlider"), ("comes", "TooMany"), ("comes", "NoWay"),
            ("away", None), ("away", "NoName"), ("away", "Bound"),
            ("later", None), ("later", "NoName"), ("later", "Bound"), ("later", "NoMinute"), ("later", "NoWay"),
            ("shut", None), ("shut", "NoMinute"), ("shut", "TooMany"), ("shut", "NoWay"),
            ("opened", None), ("opened", "NoMinute"), ("aim", None), ("aim", "NoAim"),
            ("until", None), ("until", "NoMinute"), ("undo", None), ("undo", "NoDeed"),
        })

    def test_the_plan_is_that_of_the_sky_made_anew(self):
        chance = random.Random(20)

        def look(tower, words, deed, refusal, before, after):
            names = after["names"]
            landings = best_of(words.sky(), after["aimed"])
            self.assertEqual(after["plan"], [(names[g], minute) for g, minute in landings], deed)
            self.assertIs(keeps(after["sky"], landings), True)

        for turn in range(200):
            self.walk(chance, 40, MANY[:chance.choice((3, 5, 9))], look)

    def test_rings_only_fall_places_and_minutes_stay(self):
        chance = random.Random(3)
        seen = collections.Counter()

        def look(tower, words, deed, refusal, before, after):
            rings = [ring for name, ring in after["rings"]]
            self.assertEqual(rings, sorted(set(rings)))
            self.assertTrue(all(1 <= ring <= words.meadow[0] for ring in rings), rings)
            if deed[0] == "undo":
                return
            for name, ring in before["rings"]:
                if name in dict(after["rings"]):
                    self.assertLessEqual(dict(after["rings"])[name], ring)
                    seen["rings"] += 1
            # Whoever was fixed ahead of the deed comes first behind it, too, but for those gone since.
            fixed = [before["names"][g] for g in before["sky"][3]]
            stayed = [name for name in fixed if name in after["names"]]
            joined = [name for name in stayed if before["sky"][2][before["names"].index(name)][1] <= before["now"]]
            order = [name for name, minute in after["plan"]]
            self.assertEqual([name for name in order if name in joined], joined)
            for name in joined:
                self.assertTrue(set(order[:order.index(name)]) <= set(fixed), (deed, before, after))
            seen["joined"] += len(joined) > 1
            sink = words.meadow[1]
            for name, minute in before["plan"]:
                if minute - sink <= before["now"]:
                    self.assertIn((name, minute), after["plan"] + after["landed"])
                    seen["left"] += 1
            self.assertEqual(after["landed"][:len(before["landed"])], before["landed"])

        for turn in range(250):
            self.walk(chance, 50, MANY[:chance.choice((3, 5, 9, 12))], look)
        self.assertGreater(min(seen.values()), 500, seen)

    def test_undoing_all_and_doing_it_again(self):
        chance = random.Random(19)
        for turn in range(60):
            meadow = a_tower_meadow(chance)
            tower, words = Tower(meadow), TowerByWords(meadow)
            done, told = [], [tells(tower)]
            while len(done) < 15:
                deed = a_deed(chance, words, MANY[:6])
                if deed[0] == "undo":
                    continue
                refusal = refusal_of(tower, deed)
                self.assertEqual(words.do(*deed), refusal)
                if refusal is None:
                    done.append(deed)
                    told.append(tells(tower))
            kept = copy.deepcopy(told)
            for again in range(2):
                for at in range(len(done), 0, -1):
                    self.assertEqual(tells(tower), kept[at])
                    tower.undo()
                self.assertEqual(tells(tower), kept[0])
                self.assertEqual(refusal_of(tower, ("undo",)), "NoDeed")
                for at, deed in enumerate(done):
                    self.assertIsNone(refusal_of(tower, deed))
                    self.assertEqual(tells(tower), kept[at + 1])

    def test_minute_by_minute(self):
        """Where time goes on by one minute after the other all is told as where it goes on at once."""
        chance = random.Random(21)
        for turn in range(60):
            meadow = a_tower_meadow(chance)
            slow, fast, words = Tower(meadow), Tower(meadow), TowerByWords(meadow)
            for step in range(25):
                deed = a_deed(chance, words, MANY[:7])
                if deed[0] == "undo":
                    continue
                refusal = words.do(*deed)
                self.assertEqual(refusal_of(fast, deed), refusal)
                if deed[0] == "until" and refusal is None:
                    for minute in range(slow.now(), deed[1] + 1):
                        slow.until(minute)
                else:
                    self.assertEqual(refusal_of(slow, deed), refusal)
                self.assertEqual(tells(slow), tells(fast))
                self.assertEqual(tells(slow), words.tells())


if __name__ == "__main__":
    unittest.main()
