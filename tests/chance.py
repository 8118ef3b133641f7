"""Deeds that are made by a seed, as a mixer takes them: a word, and what its method is handed."""

import random

from mixserver.errors import MixError
from mixserver.mixer import Mixer


def deeds(seed, many=160):
    """Make deeds by a seed; beats are the most of them."""
    chance = random.Random(seed)
    rows = []
    for _ in range(many):
        name = chance.randrange(6)
        rows.append(chance.choice([
            ("beat",), ("beat",), ("beat",), ("beat",), ("beat",),
            ("add", name, (chance.randint(1, 8), chance.randint(1, 8)), chance.choice([0, 0, 1, 5]),
             chance.randint(0, 64)),
            ("parcel", name, chance.choice([0, 0, chance.randrange(60), chance.randrange(300)]),
             [chance.randint(-999, 999) for _ in range(chance.choice([1, 3, 32, 32]))]),
            ("parcel", name, chance.choice([0, 10, 20, 30, 40, 50]),
             [chance.randint(-999, 999) for _ in range(32)]),
            ("end", name, chance.choice([chance.randint(1, 400), chance.randint(30, 80)])),
            ("lead", name, chance.randint(0, 64), chance.randint(1, 64)),
            ("hush", name), ("wake", name), ("wake", name)]))
    return rows


def taken(soft, rows):
    """Tell only those deeds that a mixer doesn't refuse."""
    mixer = Mixer(soft)
    kept = []
    for row in rows:
        try:
            getattr(mixer, row[0])(*row[1:])
        except MixError:
            continue
        kept.append(row)
    return kept


def as_play(rows):
    """Tell the same deeds in the form that a play has."""
    forms = {"add": lambda name, pace, wait, loudness: (name, *pace, wait, loudness),
             "parcel": lambda name, place, numbers: (name, place, tuple(numbers))}
    return [(row[0], *forms.get(row[0], lambda *parts: parts)(*row[1:])) for row in rows]
