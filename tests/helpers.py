"""What several tests need."""

import copy

from mixserver.mixer import Mixer

FULL = 64


def beats(mixer, many):
    """Do so many beats, and tell what they tell."""
    return [mixer.beat() for _ in range(many)]


def whole(*numbers):
    """Tell whole numbers as fractions."""
    return [(number, 1) for number in numbers]


def mixer_of(soft, numbers, pace=(1, 1), loudness=FULL, wait=0):
    """Make a mixer of one voice, 0, that has all its numbers but no end."""
    mixer = Mixer(soft)
    mixer.add(0, pace, wait, loudness)
    hand_all(mixer, 0, numbers)
    return mixer


def hand_all(mixer, name, numbers):
    """Hand a voice any number of numbers, from place 0 on."""
    for place in range(0, len(numbers), 32):
        mixer.parcel(name, place, numbers[place:place + 32])


def sent(pace, wait, many, arrivals, ends):
    """Tell which beats a mixer tells as missed until it wants a place behind all parcels.

    The parcels, of many numbers each, come at the arrivals, beats counted from wait beats ahead of the voice's begin.
    """
    total = many * len(arrivals)
    # A voice can't wait for more than 64 beats, but it may be added later.
    late = max(0, wait - 64)
    mixer = Mixer(1)
    beats(mixer, late)
    mixer.add(0, pace, wait - late, FULL)
    if ends:
        mixer.end(0, total)
    while (mixer.now() - wait) * pace[0] <= (total - 1) * pace[1]:
        for parcel, beat in enumerate(arrivals):
            if beat == mixer.now() or beat < late == mixer.now():
                mixer.parcel(0, parcel * many, [parcel - 50] * many)
        mixer.beat()
    return [beat for _, beat in mixer.missed()]


def refused(test, error, act, *words):
    """Test that something is refused by this very error and leaves what it is handed, and tell the error."""
    handed = copy.deepcopy(words)
    with test.assertRaises(error) as caught:
        act(*words)
    test.assertIs(type(caught.exception), error)
    test.assertEqual(words, handed)
    return caught.exception


def steady(soft, number=8, loudness=FULL):
    """Make a mixer of one voice, 0, of one value for 200 beats."""
    return mixer_of(soft, [number] * 200, loudness=loudness)


def state(mixer, name=0):
    """Tell the state of a voice."""
    return {row[0]: row[1] for row in mixer.states()}[name]


def told(mixer):
    """Tell all that a mixer tells without a beat."""
    return mixer.now(), mixer.missed(), mixer.states()


def refuse(test, error, mixer, deed, *words):
    """Test that a deed is refused by this very error, and that it changes nothing."""
    twin = copy.deepcopy(mixer)
    handed = copy.deepcopy(words)
    with test.assertRaises(error) as caught:
        getattr(mixer, deed)(*words)
    test.assertIs(type(caught.exception), error)
    test.assertEqual(words, handed)
    test.assertEqual(told(mixer), told(twin))
    alike(test, copy.deepcopy(mixer), twin)


def alike(test, one, other):
    """Test that two mixers tell the same from now on, whatever comes for their voices."""
    names = [row[0] for row in one.states()]
    test.assertEqual(names, [row[0] for row in other.states()])
    for mixer in (one, other):
        for name in names:
            for place in range(0, 40):
                fill(mixer, name, place)
            mixer.wake(name)
    for _ in range(45):
        test.assertEqual(one.beat(), other.beat())
        test.assertEqual(told(one), told(other))


def fill(mixer, name, place):
    """Hand a voice a number at a place that no test uses, if it may have one there."""
    try:
        mixer.parcel(name, place, [777 - place])
    except ValueError:
        pass
