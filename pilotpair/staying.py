"""Who is loose in a pairing, and whether it stays."""
from pilotpair.wishes import rather, refuse_wrong


def loose(pilots, boats, pairs):
    # First of all: a number of the other side that isn't there can't be looked up below.
    refuse_wrong(pilots, boats)
    boat_of = dict(pairs)
    pilot_of = dict([(boat, pilot) for pilot, boat in pairs])
    found = []
    for pilot, wishes in enumerate(pilots):
        # By their numbers, since the list tells them in the order of the wishes.
        for boat in sorted(wishes):
            # Who stands in no pair is alone, which `rather` is told by None.
            wished = rather(wishes, boat, boat_of.get(pilot))
            if wished and rather(boats[boat], pilot, pilot_of.get(boat)):
                found.append((pilot, boat))
    return found


def stays(pilots, boats, pairs):
    return loose(pilots, boats, pairs) == []
