"""Point 8: what the sum and the steps of the parts come to."""

import random
import unittest
from fractions import Fraction

from mixserver.errors import MixError
from mixserver.mixer import Mixer
from tests.chance import deeds, taken
from tests.helpers import beats, hand_all, whole
from tests.model import Model


def played(mixer, rows):
    """Tell all that a mixer tells behind each beat."""
    told = []
    for row in rows:
        tells = getattr(mixer, row[0])(*row[1:])
        if row == ("beat",):
            told.append((tells, mixer.now(), mixer.missed(), mixer.states()))
    return told


class AgainstTheModel(unittest.TestCase):
    def test_many_plays(self):
        for seed in range(150):
            soft = seed % 16 + 1
            rows = taken(soft, deeds(seed))
            self.assertEqual(played(Mixer(soft), rows), played(Model(soft), rows), seed)

    def test_refused_deeds_change_nothing(self):
        for seed in range(60):
            soft = seed % 16 + 1
            rows = deeds(seed)
            mixer = Mixer(soft)
            told = []
            for row in rows:
                try:
                    tells = getattr(mixer, row[0])(*row[1:])
                except MixError:
                    continue
                if row == ("beat",):
                    told.append((tells, mixer.now(), mixer.missed(), mixer.states()))
            self.assertEqual(told, played(Mixer(soft), taken(soft, rows)), seed)


class EachAlone(unittest.TestCase):
    def test_the_sum_is_of_what_each_would_give_alone(self):
        for seed in range(40):
            soft = seed % 16 + 1
            rows = taken(soft, deeds(seed))
            told = [row[0] for row in played(Mixer(soft), rows)]
            sums = [Fraction(0)] * len(told)
            missed = []
            for name in range(6):
                mixer = Mixer(soft)
                alone = played(mixer, [row for row in rows if row == ("beat",) or row[1] == name])
                sums = [total + Fraction(*row[0]) for total, row in zip(sums, alone)]
                missed += [(beat, name) for _, beat in mixer.missed()]
            self.assertEqual(told, [total.as_integer_ratio() for total in sums], seed)
            together = Mixer(soft)
            played(together, rows)
            self.assertEqual(together.missed(), [(name, beat) for beat, name in sorted(missed)], seed)

    def test_the_order_of_adding_counts_for_nothing(self):
        one, other = Mixer(3), Mixer(3)
        for mixer, names in ((one, range(6)), (other, range(5, -1, -1))):
            for name in names:
                mixer.add(name, (name + 1, 3), name % 2, 10 * name)
                hand_all(mixer, name, list(range(name, 90)))
        for _ in range(30):
            self.assertEqual(one.beat(), other.beat())
            self.assertEqual(one.states(), other.states())
            self.assertEqual(one.missed(), other.missed())


class Steps(unittest.TestCase):
    def test_a_part_of_one_value_steps_by_no_more_than_999_of_soft(self):
        for soft in (1, 2, 3, 7, 16):
            chance = random.Random(soft)
            mixer = Mixer(soft)
            mixer.add(0, (1, 1), 0, 64)
            last = Fraction(0)
            for beat in range(200):
                if chance.random() < 0.8:
                    mixer.parcel(0, beat, [999])
                chance.choice([mixer.hush, mixer.wake, mixer.wake])(0)
                part = Fraction(*mixer.beat())
                self.assertLessEqual(abs(part - last), Fraction(999, soft))
                last = part

    def test_a_part_steps_by_no_more_than_its_whole_does_and_999_of_soft(self):
        for seed in range(40):
            chance = random.Random(seed)
            soft = seed % 16 + 1
            mixer, plain = Mixer(soft), Mixer(1)
            for each in (mixer, plain):
                each.add(0, (3, 4), 0, 40)
            numbers = [chance.randint(-999, 999) for _ in range(160)]
            for each in (mixer, plain):
                hand_all(each, 0, numbers)
            last, last_whole = Fraction(0), None
            for _ in range(200):
                self.act(chance, mixer, plain)
                part, its_whole = Fraction(*mixer.beat()), Fraction(*plain.beat())
                step = abs(its_whole - last_whole) if last_whole is not None else 0
                self.assertLessEqual(abs(part - last), step + Fraction(999, soft))
                last, last_whole = part, its_whole

    def act(self, chance, mixer, plain):
        """Hush or wake the one voice; lead it and its twin, that is never hushed, alike."""
        chance.choice([mixer.hush, mixer.wake, mixer.wake, mixer.wake])(0)
        if chance.random() < 0.1:
            words = (0, chance.randint(0, 64), chance.randint(1, 64))
            mixer.lead(*words)
            plain.lead(*words)


class LedOver(unittest.TestCase):
    def test_two_voices_are_as_loud_together_all_along(self):
        for many in range(1, 65):
            mixer = Mixer(1)
            mixer.add(0, (1, 1), 0, 64)
            mixer.add(1, (1, 1), 0, 0)
            for name in (0, 1):
                hand_all(mixer, name, [100] * 80)
            self.assertEqual(mixer.beat(), (100, 1))
            mixer.lead(0, 0, many)
            mixer.lead(1, 64, many)
            self.assertEqual(beats(mixer, many + 2), whole(*[100] * (many + 2)))
            self.assertEqual([row[3] for row in mixer.states()], [(0, 1), (1, 1)])

    def test_led_over_of_a_value_that_changes(self):
        numbers = [(place * 531) % 1999 - 999 for place in range(60)]
        mixer, alone = Mixer(4), Mixer(4)
        mixer.add(0, (2, 3), 0, 50)
        mixer.add(1, (2, 3), 0, 3)
        alone.add(0, (2, 3), 0, 53)
        for each, name in ((mixer, 0), (mixer, 1), (alone, 0)):
            hand_all(each, name, numbers)
        self.assertEqual(beats(mixer, 10), beats(alone, 10))
        mixer.lead(0, 3, 17)
        mixer.lead(1, 50, 17)
        self.assertEqual(beats(mixer, 9), beats(alone, 9))
        # Back again, from midway.
        self.assertNotEqual(mixer.states()[0][3], mixer.states()[1][3])
        mixer.lead(0, 50, 5)
        mixer.lead(1, 3, 5)
        self.assertEqual(beats(mixer, 20), beats(alone, 20))


if __name__ == "__main__":
    unittest.main()
