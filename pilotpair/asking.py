"""Pilots ask boats until no pilot who is alone has a boat left to ask."""
from pilotpair.wishes import rather, refuse_wrong


class Asking:
    def __init__(self, pilots, boats):
        self.pilots = pilots
        self.boats = boats
        # A pilot asks along their list, so a number tells which boats they have asked.
        self.asked = [0 for wishes in pilots]
        self.pilot_of = [None for wishes in boats]

    def has_boats_left(self, pilot):
        return self.asked[pilot] < len(self.pilots[pilot])

    # Gives back who is alone now, or None for nobody, since that pilot asks next.
    def ask(self, pilot):
        boat = self.pilots[pilot][self.asked[pilot]]
        self.asked[pilot] = self.asked[pilot] + 1
        before = self.pilot_of[boat]
        if not rather(self.boats[boat], pilot, before):
            return pilot
        self.pilot_of[boat] = pilot
        return before

    # Whom a boat leaves goes on at once, so in the end only those without boats left are alone.
    def ask_from(self, pilot):
        alone = pilot
        while alone is not None and self.has_boats_left(alone):
            alone = self.ask(alone)


def asking_in_the_end(pilots, boats):
    refuse_wrong(pilots, boats)
    asking = Asking(pilots, boats)
    for pilot in range(len(pilots)):
        asking.ask_from(pilot)
    return asking


def paired(pilots, boats):
    asking = asking_in_the_end(pilots, boats)
    return sorted([(pilot, boat) for boat, pilot in enumerate(asking.pilot_of) if pilot is not None])


def askings(pilots, boats):
    return sum(asking_in_the_end(pilots, boats).asked)
