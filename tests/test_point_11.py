"""Point 11: plays."""

import unittest

from mixserver.errors import (BadDeed, BadEnd, BadLead, BadName, BadPace, BadParcel, BadSoft, BadWait, MixError,
                              NoVoice, There)
from mixserver.mixer import Mixer
from mixserver.plays import played, written
from tests.chance import as_play, deeds, taken
from tests.helpers import refused, whole
from tests.wrong_deeds import GOOD, wrong_deeds

BEAT = ("beat",)


def by_a_mixer(soft, rows):
    """Tell what a mixer tells that does these deeds, given as its methods take them."""
    mixer = Mixer(soft)
    told = [getattr(mixer, row[0])(*row[1:]) for row in rows]
    return ([tells for tells in told if tells is not None], mixer.missed(), mixer.states())


class ByHand(unittest.TestCase):
    def test_no_deeds(self):
        for soft in (1, 16):
            self.assertEqual(played(soft, []), ([], [], []))

    def test_beats_alone(self):
        self.assertEqual(played(3, [BEAT] * 4), (whole(0, 0, 0, 0), [], []))

    def test_each_kind_of_deed(self):
        told = played(2, [("add", 0, 1, 2, 1, 64), ("parcel", 0, 0, (8, 4, -6)), BEAT, BEAT, BEAT,
                          ("lead", 0, 32, 2), BEAT, ("hush", 0), BEAT, ("wake", 0), BEAT, ("end", 0, 3), BEAT])
        # From beat 1 on 8, 6, 4, -1 and -6; the loudness is 3/4 and 1/2 from beat 3 on.
        self.assertEqual(told, ([(0, 1), (4, 1), (6, 1), (3, 1), (3, 2), (0, 1), (0, 1)], [],
                                [(0, "hushed", (0, 1), (1, 2))]))

    def test_what_is_missed(self):
        told = played(1, [("add", 3, 1, 1, 0, 64), ("add", 1, 1, 1, 1, 16), BEAT, BEAT, ("parcel", 3, 2, (5,)), BEAT])
        self.assertEqual(told, (whole(0, 0, 5), [(3, 0), (1, 1), (3, 1), (1, 2)],
                                [(1, "hushed", (0, 1), (1, 4)), (3, "on", (5, 1), (1, 1))]))

    def test_kinds(self):
        told = played(1, [("add", 0, 1, 1, 0, 64), BEAT])
        self.assertIs(type(told), tuple)
        self.assertEqual([type(part) for part in told], [list, list, list])
        self.assertEqual([type(part[0]) for part in told], [tuple, tuple, tuple])

    def test_a_parcel_of_one_and_of_32(self):
        for many in (1, 32):
            told = played(1, [("add", 0, 1, 1, 0, 64), ("parcel", 0, 0, (-999,) * many)] + [BEAT] * 33)
            self.assertEqual(told[0], whole(*[-999] * many, *[0] * (33 - many)))
            self.assertEqual(told[1], [(0, beat) for beat in range(many, 33)])


class AgainstAMixer(unittest.TestCase):
    def test_deeds_that_are_taken(self):
        for seed in range(120):
            soft = seed % 16 + 1
            rows = taken(soft, deeds(seed, 300))
            self.assertEqual(played(soft, as_play(rows)), by_a_mixer(soft, rows), seed)

    def test_deeds_that_are_refused(self):
        kinds = set()
        for seed in range(120):
            soft = seed % 16 + 1
            rows = deeds(seed, 60)
            with self.assertRaises(MixError) as caught:
                by_a_mixer(soft, rows)
            kinds.add(type(caught.exception))
            refused(self, type(caught.exception), played, soft, as_play(rows))
        self.assertLessEqual({There, NoVoice}, kinds)

    def test_300_deeds(self):
        told = played(1, [("add", 0, 1, 1, 0, 64)] + [BEAT] * 299)
        self.assertEqual(told, by_a_mixer(1, [("add", 0, (1, 1), 0, 64)] + [BEAT] * 299))
        self.assertEqual((len(told[0]), len(told[1])), (299, 299))


class RefusedByTheMixer(unittest.TestCase):
    def test_each_kind(self):
        add = ("add", 0, 1, 1, 0, 64)
        for error, rows in (
                (BadName, [("add", 6, 1, 1, 0, 64)]), (BadName, [("hush", 999)]), (BadName, [("beat",), ("end", 7, 0)]),
                (There, [add, add]), (NoVoice, [("wake", 5)]), (NoVoice, [add, ("parcel", 1, 0, (1,))]),
                (BadPace, [("add", 0, 0, 1, 0, 64)]), (BadPace, [("add", 0, 1, 9, 0, 64)]),
                (BadPace, [("add", 0, 999, 999, 999, 999)]), (BadWait, [("add", 0, 1, 1, 65, 64)]),
                (BadLead, [("add", 0, 1, 1, 0, 65)]), (BadLead, [add, ("lead", 0, 65, 1)]),
                (BadLead, [add, ("lead", 0, 0, 0)]), (BadParcel, [add, ("parcel", 0, 999, (1, 2))]),
                (BadParcel, [add, ("end", 0, 1), ("parcel", 0, 1, (5,))]), (BadEnd, [add, ("end", 0, 0)]),
                (BadEnd, [add, ("end", 0, 9), ("end", 0, 9)])):
            refused(self, error, played, 1, rows)

    def test_the_first_one(self):
        refused(self, NoVoice, played, 1, [BEAT, ("hush", 0), ("hush", 6), ("add", 0, 0, 0, 0, 0)])
        refused(self, BadName, played, 1, [BEAT, ("hush", 6), ("hush", 0), ("add", 0, 0, 0, 0, 0)])

    def test_the_edges_that_a_mixer_takes(self):
        told = played(16, [("add", 5, 8, 8, 64, 64), ("parcel", 5, 999, (-999,)), ("lead", 5, 0, 64), ("hush", 5),
                           ("add", 0, 1, 1, 0, 0), ("end", 0, 999)])
        self.assertEqual(told[2], [(0, "hushed", (0, 1), (0, 1)), (5, "hushed", (0, 1), (1, 1))])


class Soft(unittest.TestCase):
    def test_it_can_not_be(self):
        for soft in (-1, 0, 17, 100, True, False):
            refused(self, BadSoft, played, soft, [])
            refused(self, BadSoft, played, soft, [BEAT])

    def test_it_is_refused_ahead_of_the_deeds(self):
        refused(self, BadSoft, played, 0, [("dance",)])
        refused(self, BadSoft, played, 17, [()])
        refused(self, BadSoft, played, 17, [BEAT] * 301)
        refused(self, BadSoft, played, 17, [("hush", 0)])


class BadDeeds(unittest.TestCase):
    def number(self, rows):
        """Test that both refuse these deeds by one number, and tell it."""
        by_played = refused(self, BadDeed, played, 1, rows).number
        self.assertEqual(refused(self, BadDeed, written, rows).number, by_played)
        self.assertIs(type(by_played), int)
        return by_played

    def test_each_one_alone(self):
        for wrong in wrong_deeds():
            self.assertEqual(self.number([wrong]), 0, wrong)

    def test_each_one_behind_others(self):
        for wrong in wrong_deeds():
            self.assertEqual(self.number([("add", 0, 1, 1, 0, 64), BEAT, wrong, BEAT]), 2, wrong)

    def test_each_one_behind_a_deed_that_a_mixer_would_refuse(self):
        for wrong in wrong_deeds():
            self.assertEqual(self.number([("hush", 0), ("hush", 999), wrong]), 2, wrong)

    def test_the_first_of_several(self):
        rows = wrong_deeds()
        self.assertEqual(self.number(rows), 0)
        self.assertEqual(self.number([BEAT] * 7 + rows), 7)
        self.assertEqual(self.number([BEAT, ("dance",), BEAT, ()]), 1)

    def test_numbers_at_their_edges_can_be(self):
        for deed in GOOD:
            if deed[0] != "parcel":
                for number in (0, 999):
                    written([(deed[0], *[number] * (len(deed) - 1))])
        for rows in ([("parcel", 0, 0, (-999,))], [("parcel", 999, 999, (999,) * 32)], [("parcel", 1, 2, (0,))]):
            written(rows)
        for rows in ([("hush", 999)], [("end", 999, 0)], [("lead", 999, 999, 999)], [("parcel", 999, 999, (1,))]):
            refused(self, BadName, played, 1, rows)

    def test_too_many(self):
        self.assertEqual(len(played(1, [BEAT] * 300)[0]), 300)
        self.assertEqual(self.number([BEAT] * 301), 300)
        self.assertEqual(self.number([BEAT] * 310), 300)
        self.assertEqual(self.number([BEAT] * 300 + [("dance",)]), 300)
        self.assertEqual(self.number([BEAT] * 305 + [("dance",)]), 300)
        self.assertEqual(self.number([BEAT] * 299 + [("dance",)] * 3), 299)
        self.assertEqual(self.number([BEAT] * 3 + [()] + [BEAT] * 300), 3)
        self.assertEqual(self.number([("hush", 0)] * 301), 300)


class Handed(unittest.TestCase):
    rows = [("add", 0, 1, 1, 0, 64), ("parcel", 0, 0, (4, 5)), BEAT, BEAT, BEAT]

    def test_deeds_stay(self):
        rows = list(self.rows)
        played(2, rows)
        self.assertEqual(rows, self.rows)
        refused(self, NoVoice, played, 2, rows + [("hush", 1)])

    def test_deeds_may_be_changed_later(self):
        rows = list(self.rows)
        told = played(2, rows)
        rows.clear()
        self.assertEqual(told, played(2, self.rows))

    def test_what_is_told_may_be_changed(self):
        told = played(2, self.rows)
        for part in told:
            self.assertTrue(part)
            part[0] = None
            part.append("more")
        self.assertNotEqual(played(2, self.rows), told)
        self.assertEqual(played(2, self.rows), (
            [(2, 1), (5, 1), (5, 2)], [(0, 2)], [(0, "falling", (5, 2), (1, 1))]))

    def test_two_plays_know_nothing_of_each_other(self):
        first = played(2, self.rows)
        self.assertEqual(played(2, [BEAT]), (whole(0), [], []))
        refused(self, NoVoice, played, 2, [("hush", 0)])
        self.assertEqual(played(2, self.rows), first)


if __name__ == "__main__":
    unittest.main()
