"""Deeds that can be, one of each kind, and such that can't be by their form."""

GOOD = [("add", 0, 1, 2, 3, 64), ("parcel", 0, 5, (1, -2, 3)), ("end", 0, 9), ("lead", 0, 32, 4), ("hush", 0),
        ("wake", 0), ("beat",)]

# What is no number from 0 to 999.
NO_NUMBERS = (-1, 1000, True, False, "", "1", "beat", (), (1,), ("1",), ((1,),))

NO_PARCELS = ((), (0,) * 33, (0,) * 100, 0, 5, "", "5", "1,2", (1000,), (-1000,), (True,), (1, False), ("1",),
              (1, "2"), ((1,),), (1, (2, 3)), (0,) * 31 + (1000,))

NO_WORDS = ((), ("",), ("dance",), ("dance", 0), ("Beat",), ("BEAT",), ("beat ",), (" hush", 0), ("beats",),
            ("now",), ("missed",), ("states",), ("voice_of", 0), (0,), (0, 0), ((), 0), (("beat",),),
            (("hush", 0),), (("hush", 0), 0))


def wrong_deeds():
    """Tell deeds that can't be by their form."""
    rows = list(NO_WORDS)
    for deed in GOOD:
        rows += [deed[:1], deed[:-1], (*deed, 0), (*deed, ""), (*deed, ()), (*deed, *deed)]
        numbers = 3 if deed[0] == "parcel" else len(deed)
        for at in range(1, numbers):
            rows += [(*deed[:at], wrong, *deed[at + 1:]) for wrong in NO_NUMBERS]
    rows += [("parcel", 0, 5, wrong) for wrong in NO_PARCELS]
    rows += [("parcel", 0, 5, 1, 2), ("parcel", 0, 5, (1,), (2,)), ("parcel", 0, (1,), 5)]
    # A beat has nothing behind its word, so that its word alone is a deed that can be.
    return [row for row in rows if row not in GOOD]
