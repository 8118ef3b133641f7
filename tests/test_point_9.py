"""Point 9: what a sender makes, and which wait is enough."""

import random
import unittest
from fractions import Fraction

from mixserver.bounds import enough
from mixserver.errors import BadBounds, BadPace
from tests.helpers import refused, sent

PACES = [(numbers, beats) for numbers in range(1, 9) for beats in range(1, 9)]


def made(pace, many):
    """Tell when so many numbers are made, by counting beats."""
    rows = []
    beat = 0
    for place in range(many):
        # So many beats lie ahead of a beat as its number tells.
        while beat < Fraction(place * pace[1], pace[0]):
            beat += 1
        rows.append(beat)
    return rows


def arrivals(pace, many, parcels, delays):
    """Tell when parcels come that are late by these delays, in turn."""
    rows = made(pace, many * parcels)
    return [rows[many * parcel + many - 1] + delays[parcel] for parcel in range(parcels)]


def wants(pace, places):
    """Tell, for each beat behind a voice's begin, the places that it wants, while all of them are below this."""
    rows = []
    while True:
        place = Fraction(len(rows) * pace[0], pace[1])
        low, high = place.numerator // place.denominator, -(-place.numerator // place.denominator)
        if high >= places:
            return rows
        rows.append((low, high))


def least(pace, many, late, parcels):
    """Try all waits, from none on."""
    came = arrivals(pace, many, parcels, [late] * parcels)
    rows = wants(pace, many * parcels)
    wait = 0
    while any(came[place // many] > wait + passed for passed, places in enumerate(rows) for place in places):
        wait += 1
    return wait


class ByHand(unittest.TestCase):
    def test_a_number_in_a_beat(self):
        # The number of each beat is made in this beat, and wanted in it.
        self.assertEqual(enough((1, 1), 1, 0), 0)
        self.assertEqual(enough((1, 1), 1, 1), 1)
        self.assertEqual(enough((1, 1), 1, 99), 99)
        # Four numbers come with the last of them, and the first is three beats older.
        self.assertEqual(enough((1, 1), 4, 0), 3)
        self.assertEqual(enough((1, 1), 32, 99), 130)

    def test_a_number_in_many_beats(self):
        # From its second beat on a voice wants the number at place 1, that is made in the third, or the ninth.
        self.assertEqual(enough((1, 2), 1, 0), 1)
        self.assertEqual(enough((1, 8), 1, 0), 7)
        # In the beat behind place 31 it wants place 32, which comes with place 63, in beat 504.
        self.assertEqual(enough((1, 8), 32, 0), 504 - 249)
        self.assertEqual(enough((1, 8), 32, 99), 354)

    def test_many_numbers_in_a_beat(self):
        # Places 0, 2, 4: made in beats 0, 1, 2; the other ones are not wanted.
        self.assertEqual(enough((2, 1), 1, 0), 0)
        # Places 0 and 1 come in beat 1.
        self.assertEqual(enough((2, 1), 2, 0), 1)
        # Place 7 comes in beat 1: 7/8 of a beat are no whole one.
        self.assertEqual(enough((8, 1), 8, 0), 1)
        self.assertEqual(enough((8, 1), 9, 0), 1)

    def test_a_number_that_is_made_between_two_beats_is_there_in_the_later_one(self):
        # Place 1 is made when two thirds of a beat are over; beat 1 wants places 1 and 2, that is made in beat 2.
        self.assertEqual(enough((3, 2), 1, 0), 1)

    def test_it_is_a_number(self):
        self.assertIs(type(enough((5, 3), 7, 2)), int)


class AgainstAllWaits(unittest.TestCase):
    def test_all_paces_on_time_and_as_late_as_may_be(self):
        for pace in PACES:
            for many in (1, 2, 3, 5, 8, 31, 32):
                for late in (0, 99):
                    told = least(pace, many, late, 2 * pace[0] + 2)
                    self.assertEqual(enough(pace, many, late), told, (pace, many, late))

    def test_all_sizes_of_parcels(self):
        for pace in ((1, 1), (7, 5), (5, 7), (8, 3), (6, 4)):
            for many in range(1, 33):
                self.assertEqual(enough(pace, many, 4), least(pace, many, 4, 2 * pace[0] + 2), (pace, many))

    def test_all_delays(self):
        for pace, many in (((3, 4), 6), ((5, 2), 1)):
            for late in range(100):
                self.assertEqual(enough(pace, many, late), least(pace, many, late, 12), (pace, many, late))


class AgainstAMixer(unittest.TestCase):
    def test_as_late_as_they_may(self):
        for pace in PACES[::3]:
            for many, late in ((1, 0), (4, 9), (32, 0), (7, 99)):
                parcels = 2 * pace[0] + 2
                came = arrivals(pace, many, parcels, [late] * parcels)
                wait = enough(pace, many, late)
                self.assertEqual(sent(pace, wait, many, came, False), [], (pace, many, late))
                if wait > 0:
                    self.assertNotEqual(sent(pace, wait - 1, many, came, False), [], (pace, many, late))

    def test_however_they_come_within_the_bounds(self):
        chance = random.Random(9)
        for _ in range(80):
            pace, many, late = chance.choice(PACES), chance.randint(1, 32), chance.choice([0, 3, 30, 99])
            parcels = min(1000 // many, 20)
            came = arrivals(pace, many, parcels, [chance.randint(0, late) for _ in range(parcels)])
            self.assertEqual(sent(pace, enough(pace, many, late), many, came, False), [], (pace, many, late))

    def test_to_the_last_place(self):
        for pace, many in (((1, 1), 8), ((8, 7), 10), ((3, 1), 20)):
            came = arrivals(pace, many, 1000 // many, [5] * (1000 // many))
            self.assertEqual(sent(pace, enough(pace, many, 5), many, came, False), [])


class Refused(unittest.TestCase):
    def test_edges_are_taken(self):
        for pace in ((1, 1), (1, 8), (8, 1), (8, 8)):
            for many in (1, 32):
                for late in (0, 99):
                    enough(pace, many, late)

    def test_pace(self):
        for pace in ((0, 1), (1, 0), (9, 1), (1, 9), (-1, 1), (1, -1), (), (1,), (1, 1, 1), (True, 1), (1, True),
                     (False, 1), (1, False)):
            refused(self, BadPace, enough, pace, 1, 0)

    def test_many(self):
        for many in (-1, 0, 33, 100, True, False):
            refused(self, BadBounds, enough, (1, 1), many, 0)

    def test_late(self):
        for late in (-1, 100, 1000, True, False):
            refused(self, BadBounds, enough, (1, 1), 1, late)

    def test_what_is_handed_in_first_is_refused_first(self):
        refused(self, BadPace, enough, (0, 1), 0, 100)
        refused(self, BadPace, enough, (1, 9), 33, 0)
        refused(self, BadPace, enough, (1, 9), 1, -1)
        refused(self, BadBounds, enough, (1, 1), 33, -1)


if __name__ == "__main__":
    unittest.main()
