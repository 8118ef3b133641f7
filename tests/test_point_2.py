"""Point 2: soft, now and names."""

import unittest

from mixserver.errors import BadName, BadSoft, NoVoice
from mixserver.mixer import Mixer
from tests.helpers import FULL, beats, refuse, steady, whole


class Soft(unittest.TestCase):
    def test_bounds(self):
        for soft in range(1, 17):
            self.assertEqual(Mixer(soft).now(), 0)
        for soft in (-1, 0, 17, 100, True, False):
            with self.assertRaises(BadSoft) as caught:
                Mixer(soft)
            self.assertIs(type(caught.exception), BadSoft)

    def test_in_so_many_beats_voices_rise(self):
        for soft in range(1, 17):
            mixer = steady(soft, soft)
            self.assertEqual(beats(mixer, soft + 1), whole(*range(1, soft + 1), soft))

    def test_and_fall(self):
        for soft in range(1, 17):
            mixer = steady(soft, soft)
            beats(mixer, soft)
            mixer.hush(0)
            self.assertEqual(beats(mixer, soft + 1), whole(*range(soft - 1, -1, -1), 0))


class Now(unittest.TestCase):
    def test_it_is_the_number_of_the_next_beat(self):
        mixer = Mixer(3)
        for beat in range(100):
            self.assertEqual(mixer.now(), beat)
            mixer.beat()
        self.assertEqual(mixer.now(), 100)

    def test_nothing_else_moves_it(self):
        mixer = Mixer(3)
        mixer.beat()
        mixer.add(0, (1, 1), 9, FULL)
        mixer.parcel(0, 0, [1])
        mixer.end(0, 4)
        mixer.lead(0, 4, 4)
        mixer.hush(0)
        mixer.wake(0)
        mixer.missed()
        mixer.states()
        self.assertEqual(mixer.now(), 1)
        self.assertIs(type(mixer.now()), int)


class Names(unittest.TestCase):
    def test_bounds(self):
        mixer = Mixer(1)
        for name in range(6):
            mixer.add(name, (1, 1), 0, FULL)
            mixer.parcel(name, 0, [10 ** (name % 3)])
        self.assertEqual(mixer.beat(), (222, 1))
        for name in (-1, 6, 100, True, False):
            refuse(self, BadName, mixer, "add", name, (1, 1), 0, 0)
            refuse(self, BadName, mixer, "parcel", name, 0, [1])
            refuse(self, BadName, mixer, "end", name, 9)
            refuse(self, BadName, mixer, "lead", name, 1, 1)
            refuse(self, BadName, mixer, "hush", name)
            refuse(self, BadName, mixer, "wake", name)

    def test_a_name_that_can_be_but_is_not_there(self):
        mixer = Mixer(1)
        mixer.add(2, (1, 1), 0, FULL)
        for name in (0, 1, 3, 4, 5):
            refuse(self, NoVoice, mixer, "parcel", name, 0, [1])
            refuse(self, NoVoice, mixer, "end", name, 9)
            refuse(self, NoVoice, mixer, "lead", name, 1, 1)
            refuse(self, NoVoice, mixer, "hush", name)
            refuse(self, NoVoice, mixer, "wake", name)

    def test_the_name_is_refused_ahead_of_the_rest(self):
        mixer = Mixer(1)
        refuse(self, BadName, mixer, "add", 6, (0, 0), 65, 65)
        for name, error in ((6, BadName), (5, NoVoice)):
            refuse(self, error, mixer, "parcel", name, -1, [])
            refuse(self, error, mixer, "end", name, 0)
            refuse(self, error, mixer, "lead", name, 65, 0)


if __name__ == "__main__":
    unittest.main()
