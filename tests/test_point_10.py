"""Point 10: which beats are missed if parcels come when they come."""

import random
import unittest
from fractions import Fraction

from mixserver.bounds import enough, judged
from mixserver.errors import BadArrivals, BadBounds, BadPace, BadWait
from tests.helpers import refused, sent


class ByHand(unittest.TestCase):
    def test_in_time(self):
        self.assertEqual(judged((1, 1), 0, 1, [0, 1, 2, 3]), [])
        # What comes at a beat is there for it.
        self.assertEqual(judged((1, 1), 2, 1, [2, 3, 4]), [])

    def test_a_beat_late(self):
        self.assertEqual(judged((1, 1), 0, 1, [0, 2, 2, 4]), [1, 3])
        self.assertEqual(judged((1, 1), 2, 1, [3, 3, 4]), [2])

    def test_beats_are_counted_from_where_the_sender_begins(self):
        # The voice begins at beat 64, and wants places 0, 1 and 2 at beats 64, 65 and 66.
        self.assertEqual(judged((1, 1), 64, 1, [64, 66, 70]), [65, 66])

    def test_parcels_of_many(self):
        # Places 0, 1 and 2 come at beat 2, and 3, 4 and 5 at beat 5.
        self.assertEqual(judged((1, 1), 0, 3, [2, 5]), [0, 1, 3, 4])
        self.assertEqual(judged((1, 1), 1, 3, [2, 5]), [1, 4])
        self.assertEqual(judged((1, 1), 2, 3, [2, 5]), [])

    def test_between_numbers_both_are_wanted(self):
        # Beats 0 to 4 want places 0, 0 and 1, 1, 1 and 2, 2.
        self.assertEqual(judged((1, 2), 0, 1, [0, 2, 4]), [1, 3])
        self.assertEqual(judged((1, 2), 0, 1, [9, 0, 0]), [0, 1])
        self.assertEqual(judged((1, 2), 0, 1, [0, 9, 0]), [1, 2, 3])
        self.assertEqual(judged((1, 2), 0, 1, [0, 0, 9]), [3, 4])

    def test_places_that_are_not_wanted(self):
        # Beats 0, 1 and 2 want places 0, 2 and 4.
        self.assertEqual(judged((2, 1), 0, 1, [0, 99, 1, 99, 2, 99]), [])
        self.assertEqual(judged((2, 1), 0, 1, [0, 0, 2, 0, 2, 0]), [1])

    def test_out_of_turn(self):
        self.assertEqual(judged((1, 1), 0, 1, [3, 2, 1, 0]), [0, 1])
        self.assertEqual(judged((1, 1), 5, 2, [9, 0]), [5, 6])
        self.assertEqual(judged((1, 1), 5, 2, [0, 9]), [7, 8])

    def test_all_at_once(self):
        self.assertEqual(judged((1, 1), 0, 32, [0] * 30), [])
        self.assertEqual(judged((1, 1), 3, 2, [5, 5, 5]), [3, 4])

    def test_none(self):
        for pace in ((1, 1), (8, 1), (1, 8)):
            self.assertEqual(judged(pace, 0, 1, []), [])
            self.assertEqual(judged(pace, 64, 32, []), [])


class TheEnd(unittest.TestCase):
    def test_behind_its_last_number_nothing_is_missed(self):
        self.assertEqual(judged((1, 1), 0, 1, [9999]), [0])
        self.assertEqual(judged((1, 1), 64, 2, [9999]), [64, 65])
        self.assertEqual(judged((1, 1), 0, 32, [9999] * 30), list(range(960)))

    def test_between_the_last_number_and_the_next_one_it_is_over(self):
        self.assertEqual(judged((1, 8), 0, 1, [9999]), [0])
        self.assertEqual(judged((1, 8), 0, 1, [0, 9999]), list(range(1, 9)))
        # Places 0, 3/2 and 3: of three numbers the last has place 2.
        self.assertEqual(judged((3, 2), 0, 3, [9]), [0, 1])
        self.assertEqual(judged((3, 2), 0, 4, [9]), [0, 1, 2])
        self.assertEqual(judged((8, 1), 0, 8, [9]), [0])
        self.assertEqual(judged((8, 1), 0, 9, [9]), [0, 1])

    def test_the_slowest(self):
        self.assertEqual(judged((1, 8), 64, 32, [9999] * 30), list(range(64, 64 + 8 * 959 + 1)))


def counted(pace, wait, many, arrivals):
    """Tell the same, over far more beats than any voice lasts."""
    missed = []
    for beat in range(wait, wait + 8 * many * len(arrivals) + 9):
        place = Fraction((beat - wait) * pace[0], pace[1])
        wants = {place.numerator // place.denominator, -(-place.numerator // place.denominator)}
        if all(at < many * len(arrivals) for at in wants) and any(arrivals[at // many] > beat for at in wants):
            missed.append(beat)
    return missed


def by_chance(seed):
    """Make what judged is handed, by a seed."""
    chance = random.Random(seed)
    pace = (chance.randint(1, 8), chance.randint(1, 8))
    wait, many = chance.choice([0, 1, 9, 64]), chance.choice([1, 2, 3, 7, 32])
    arrivals = []
    for parcel in range(chance.randint(1, 30 if many < 9 else 6)):
        made = (parcel * many + many - 1) * pace[1] // pace[0]
        arrivals.append(max(0, made + chance.choice([0, wait, chance.randint(-20, 90)])))
    if seed % 3 == 0:
        chance.shuffle(arrivals)
    return pace, wait, many, arrivals


class AgainstOthers(unittest.TestCase):
    def test_a_mixer(self):
        for seed in range(250):
            words = by_chance(seed)
            self.assertEqual(judged(*words), sent(*words, True), words)

    def test_counting(self):
        some = 0
        for seed in range(250, 500):
            words = by_chance(seed)
            told = judged(*words)
            self.assertEqual(told, counted(*words), words)
            self.assertEqual(told, sorted(set(told)))
            some += told != []
        self.assertGreater(some, 50)

    def test_a_mixer_at_the_edges(self):
        for words in (((8, 8), 64, 32, [9999] * 30), ((1, 1), 0, 1, [0] * 30), ((1, 1), 0, 1, list(range(30))),
                      ((1, 1), 0, 1, list(range(29, -1, -1))), ((1, 2), 3, 32, [0, 9999, 0])):
            self.assertEqual(judged(*words), sent(*words, True), words)

    def test_enough(self):
        for pace, many, late in (((1, 1), 8, 20), ((3, 2), 4, 50), ((8, 5), 32, 0), ((2, 7), 3, 9)):
            wait = enough(pace, many, late)
            made = [-(-((parcel + 1) * many - 1) * pace[1] // pace[0]) for parcel in range(30)]
            self.assertEqual(judged(pace, wait, many, [beat + late for beat in made]), [])
            self.assertNotEqual(judged(pace, wait - 1, many, [beat + late for beat in made]), [])


class Handed(unittest.TestCase):
    def test_the_list_that_is_handed_in_stays(self):
        arrivals = [4, 0, 9]
        judged((1, 1), 0, 2, arrivals)
        self.assertEqual(arrivals, [4, 0, 9])

    def test_the_told_list_may_be_changed(self):
        arrivals = [4, 0, 9]
        told = judged((1, 1), 0, 2, arrivals)
        self.assertIs(type(told), list)
        before = list(told)
        told.append(7)
        told[0] = None
        self.assertEqual(arrivals, [4, 0, 9])
        self.assertEqual(judged((1, 1), 0, 2, arrivals), before)

    def test_the_list_may_be_changed_later(self):
        arrivals = [4, 0, 9]
        told = judged((1, 1), 0, 2, arrivals)
        arrivals.clear()
        self.assertEqual(told, [0, 1, 4, 5])

    def test_none_are_told_apart(self):
        told = judged((1, 1), 0, 1, [])
        told.append(3)
        self.assertEqual(judged((1, 1), 0, 1, []), [])


class Refused(unittest.TestCase):
    def number(self, arrivals, *words):
        return refused(self, BadArrivals, judged, *(words or ((1, 1), 0, 1)), arrivals).number

    def test_edges_are_taken(self):
        for pace in ((1, 1), (1, 8), (8, 1), (8, 8)):
            for wait in (0, 64):
                for many in (1, 32):
                    judged(pace, wait, many, [0, 9999])
        self.assertEqual(judged((1, 1), 0, 1, [0] * 30), [])

    def test_a_beat_that_can_not_be(self):
        for beat in (-1, 10000, 99999, True, False):
            self.assertEqual(self.number([beat]), 0)
            self.assertEqual(self.number([0, 9999, beat, 3]), 2)
            self.assertEqual(self.number([1] * 29 + [beat]), 29)

    def test_the_first_of_several(self):
        self.assertEqual(self.number([0, 10000, -1]), 1)
        self.assertEqual(self.number([5, 5, -1, 10000, True]), 2)

    def test_a_31st(self):
        self.assertEqual(self.number([0] * 31), 30)
        self.assertEqual(self.number([0] * 35), 30)
        self.assertEqual(self.number([0] * 30 + [-1]), 30)
        self.assertEqual(self.number([0] * 33 + [-1]), 30)
        self.assertEqual(self.number([0] * 7 + [10000] + [0] * 30), 7)

    def test_pace_wait_and_many(self):
        for pace in ((0, 1), (1, 0), (9, 1), (1, 9), (), (1,), (1, 1, 1), (True, 1), (1, False)):
            refused(self, BadPace, judged, pace, 0, 1, [0])
        for wait in (-1, 65, 1000, True, False):
            refused(self, BadWait, judged, (1, 1), wait, 1, [0])
        for many in (-1, 0, 33, 1000, True, False):
            refused(self, BadBounds, judged, (1, 1), 0, many, [0])

    def test_without_arrivals_too(self):
        refused(self, BadPace, judged, (0, 1), 0, 1, [])
        refused(self, BadWait, judged, (1, 1), 65, 1, [])
        refused(self, BadBounds, judged, (1, 1), 0, 33, [])

    def test_what_is_handed_in_first_is_refused_first(self):
        refused(self, BadPace, judged, (0, 1), -1, 0, [-1])
        refused(self, BadWait, judged, (1, 1), -1, 0, [-1])
        refused(self, BadBounds, judged, (1, 1), 0, 0, [-1])
        refused(self, BadPace, judged, (1, 9), 0, 1, [-1])
        refused(self, BadWait, judged, (1, 1), 65, 1, [0] * 31)


if __name__ == "__main__":
    unittest.main()
