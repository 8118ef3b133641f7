"""Point 1: what holds over all of it."""

import math
import unittest

from mixserver.bounds import enough, judged
from mixserver.errors import (BadEnd, BadLead, BadName, BadPace, BadParcel, BadSoft, BadWait, MixError, NoVoice,
                              There)
from mixserver.mixer import Mixer
from mixserver.plays import played, read, written
from tests.chance import as_play, deeds, taken
from tests.helpers import FULL, beats, mixer_of, refuse, steady, told, whole


def busy():
    """Make a mixer in the midst of things: a rise, a fall, leads, and beats that were missed."""
    mixer = Mixer(5)
    mixer.add(0, (1, 1), 0, 64)
    mixer.add(3, (3, 4), 0, 10)
    mixer.add(1, (5, 2), 1, 33)
    mixer.parcel(0, 0, [10, -20, 30, 40, 50])
    mixer.parcel(3, 0, [7] * 32)
    mixer.parcel(1, 0, [1, 2, 3, 4, 5, 6, 7])
    beats(mixer, 4)
    mixer.hush(3)
    mixer.lead(0, 3, 7)
    mixer.lead(1, 64, 64)
    mixer.end(1, 20)
    beats(mixer, 1)
    return mixer


class Fractions(unittest.TestCase):
    def test_lowest_terms_and_bottom_above_nothing(self):
        mixer = busy()
        rows = beats(mixer, 30)
        for row in mixer.states():
            rows += [row[2], row[3]]
        for row in rows:
            self.assertIs(type(row), tuple)
            top, bottom = row
            self.assertEqual((type(top), type(bottom)), (int, int))
            self.assertGreater(bottom, 0)
            self.assertEqual(math.gcd(top, bottom), 1)

    def test_nothing(self):
        self.assertEqual(Mixer(1).beat(), (0, 1))
        self.assertEqual(steady(1, 0).beat(), (0, 1))
        self.assertEqual(steady(1, 9, loudness=0).beat(), (0, 1))
        # Two voices may come to nothing together.
        mixer = mixer_of(1, [5, -6])
        mixer.add(1, (1, 1), 0, FULL)
        mixer.parcel(1, 0, [-5, 6])
        self.assertEqual(beats(mixer, 2), whole(0, 0))

    def test_below_nothing(self):
        mixer = mixer_of(1, [-1, -2], pace=(1, 2))
        self.assertEqual(beats(mixer, 3), [(-1, 1), (-3, 2), (-2, 1)])


class TrueAndFalse(unittest.TestCase):
    def test_they_are_no_numbers(self):
        for wrong in (True, False):
            with self.assertRaises(BadSoft):
                Mixer(wrong)
            mixer = steady(2)
            for deed, words in (("add", ((1, 1), 0, 0)), ("parcel", (0, [1])), ("end", (300,)), ("lead", (1, 1)),
                                ("hush", ()), ("wake", ())):
                refuse(self, BadName, mixer, deed, wrong, *words)
            refuse(self, BadPace, mixer, "add", 1, (wrong, 1), 0, 0)
            refuse(self, BadPace, mixer, "add", 1, (1, wrong), 0, 0)
            refuse(self, BadWait, mixer, "add", 1, (1, 1), wrong, 0)
            refuse(self, BadLead, mixer, "add", 1, (1, 1), 0, wrong)
            refuse(self, BadParcel, mixer, "parcel", 0, wrong, [1])
            refuse(self, BadParcel, mixer, "parcel", 0, 0, [1, wrong])
            refuse(self, BadLead, mixer, "lead", 0, wrong, 1)
            refuse(self, BadLead, mixer, "lead", 0, 1, wrong)
        empty = Mixer(1)
        empty.add(0, (1, 1), 0, 64)
        refuse(self, BadEnd, empty, "end", 0, True)
        refuse(self, BadEnd, empty, "end", 0, False)


class NothingIsKept(unittest.TestCase):
    def test_a_list_changed_afterwards(self):
        numbers = [1, 2, 3]
        mixer = Mixer(1)
        mixer.add(0, (1, 1), 0, FULL)
        mixer.parcel(0, 0, numbers)
        numbers[1] = 500
        numbers.append(9)
        self.assertEqual(beats(mixer, 4), whole(1, 2, 3, 0))
        self.assertEqual(mixer.missed(), [(0, 3)])

    def test_a_list_changed_between_beats_or_emptied(self):
        numbers = [1, 2, 3]
        mixer = Mixer(1)
        mixer.add(0, (1, 1), 0, FULL)
        mixer.parcel(0, 0, numbers)
        self.assertEqual(mixer.beat(), (1, 1))
        numbers.clear()
        self.assertEqual(beats(mixer, 2), whole(2, 3))

    def test_one_list_for_two_voices(self):
        numbers = [4, 5]
        mixer = Mixer(1)
        mixer.add(0, (1, 1), 0, FULL)
        mixer.add(1, (1, 1), 0, FULL)
        mixer.parcel(0, 0, numbers)
        mixer.parcel(1, 0, numbers)
        mixer.parcel(0, 2, [6])
        mixer.parcel(1, 2, [7])
        self.assertEqual(beats(mixer, 3), whole(8, 10, 13))

    def test_what_is_handed_in_is_not_changed(self):
        numbers = [3, 1, 2]
        mixer = Mixer(1)
        mixer.add(0, (1, 1), 0, FULL)
        mixer.parcel(0, 0, numbers)
        mixer.parcel(0, 1, numbers)
        beats(mixer, 6)
        self.assertEqual(numbers, [3, 1, 2])

    def test_what_is_told_may_be_changed(self):
        mixer, twin = busy(), busy()
        missed, states = mixer.missed(), mixer.states()
        self.assertTrue(missed)
        missed.append((5, 5))
        missed[0] = None
        states.clear()
        self.assertEqual(told(mixer), told(twin))
        mixer.missed().clear()
        mixer.states()[0] = "gone"
        self.assertEqual(told(mixer), told(twin))
        self.assertEqual(beats(mixer, 9), beats(twin, 9))
        self.assertEqual(told(mixer), told(twin))

    def test_what_was_told_stays_as_it_was(self):
        mixer = busy()
        missed, states = mixer.missed(), mixer.states()
        before = list(missed), list(states)
        beats(mixer, 9)
        self.assertNotEqual(mixer.missed(), missed)
        self.assertEqual((missed, states), before)

    def test_two_mixers_know_nothing_of_each_other(self):
        one, other = steady(1), Mixer(2)
        one.beat()
        self.assertEqual(told(other), (0, [], []))
        with self.assertRaises(NoVoice):
            other.hush(0)


class AskedAgain(unittest.TestCase):
    def test_the_same_is_told(self):
        mixer = busy()
        first = told(mixer)
        for _ in range(3):
            self.assertEqual(told(mixer), first)

    def test_asking_changes_no_beat(self):
        mixer, twin = busy(), busy()
        for _ in range(20):
            told(mixer)
            self.assertEqual(mixer.beat(), twin.beat())


class Refused(unittest.TestCase):
    def test_it_changes_nothing_in_the_midst_of_things(self):
        for error, deed, words in (
                (BadName, "add", (6, (1, 1), 0, 0)), (There, "add", (3, (1, 1), 0, 0)),
                (BadPace, "add", (2, (1, 9), 0, 0)), (BadWait, "add", (2, (1, 1), 65, 0)),
                (BadLead, "add", (2, (1, 1), 0, 65)), (NoVoice, "parcel", (2, 0, [1])),
                (BadParcel, "parcel", (0, 5, [60, 70, 1000])), (BadParcel, "parcel", (0, 998, [1, 2, 3])),
                (BadParcel, "parcel", (1, 18, [1, 2, 3])), (BadEnd, "end", (0, 4)), (BadEnd, "end", (1, 21)),
                (NoVoice, "end", (2, 4)), (BadLead, "lead", (0, 65, 1)), (BadLead, "lead", (1, 5, 65)),
                (NoVoice, "lead", (2, 1, 1)), (NoVoice, "hush", (5,)), (NoVoice, "wake", (5,)),
                (BadName, "hush", (-1,)), (BadName, "wake", (6,))):
            refuse(self, error, busy(), deed, *words)

    def test_a_parcel_is_refused_whole(self):
        mixer = Mixer(1)
        mixer.add(0, (1, 1), 0, FULL)
        refuse(self, BadParcel, mixer, "parcel", 0, 0, [1, 2, 1000])
        mixer.parcel(0, 0, [4, 5])
        self.assertEqual(beats(mixer, 2), whole(4, 5))

    def test_after_a_refusal_the_right_thing_is_taken(self):
        mixer = Mixer(1)
        refuse(self, BadLead, mixer, "add", 0, (1, 1), 0, 65)
        mixer.add(0, (1, 1), 0, 64)
        refuse(self, BadEnd, mixer, "end", 0, 0)
        mixer.end(0, 1)
        refuse(self, BadParcel, mixer, "parcel", 0, 0, [1, 2])
        mixer.parcel(0, 0, [1])
        self.assertEqual(beats(mixer, 2), whole(1, 0))

    def test_each_refusal_is_a_mix_error(self):
        with self.assertRaises(MixError):
            Mixer(0)
        with self.assertRaises(MixError):
            busy().hush(9)


class NothingIsTold(unittest.TestCase):
    def test_deeds_give_none(self):
        mixer = Mixer(1)
        self.assertIsNone(mixer.add(0, (1, 1), 0, 0))
        self.assertIsNone(mixer.parcel(0, 0, [1]))
        self.assertIsNone(mixer.end(0, 1))
        self.assertIsNone(mixer.lead(0, 1, 1))
        self.assertIsNone(mixer.hush(0))
        self.assertIsNone(mixer.wake(0))


class AllOfTheProgram(unittest.TestCase):
    def test_plays_tell_fractions_in_lowest_terms(self):
        for seed in range(20):
            sums, _, states = played(7, as_play(taken(7, deeds(seed, 200))))
            for top, bottom in sums + [part for row in states for part in row[2:]]:
                self.assertEqual((type(top), type(bottom)), (int, int))
                self.assertGreater(bottom, 0)
                self.assertEqual(math.gcd(top, bottom), 1)

    def test_asked_again_the_same_is_told(self):
        rows = as_play(taken(3, deeds(5, 200)))
        arrivals = [50, 3, 90, 20]
        asked = [lambda: enough((3, 5), 7, 20), lambda: judged((3, 5), 9, 7, arrivals), lambda: played(3, rows),
                 lambda: written(rows), lambda: read(written(rows))]
        first = [ask() for ask in asked]
        for _ in range(3):
            for ask, answer in reversed(list(zip(asked, first))):
                self.assertEqual(ask(), answer)

    def test_a_mixer_knows_nothing_of_plays(self):
        mixer, twin = busy(), busy()
        for seed in range(5):
            played(5, as_play(taken(5, deeds(seed, 200))))
            judged((1, 1), 0, 1, [9, 9])
            enough((1, 1), 1, 9)
            self.assertEqual(told(mixer), told(twin))
            self.assertEqual(mixer.beat(), twin.beat())


if __name__ == "__main__":
    unittest.main()
