"""Points 1 to 3 and 5 to 10, and pilotpair/asking.py of the interface: paired and askings."""
import copy
import itertools
import unittest

from pilotpair.asking import askings, paired
from pilotpair.staying import stays


def short_lists(others):
    """Every list of wishes that names numbers below `others`, each at most once."""
    return [list(wishes) for length in range(others + 1) for wishes in itertools.permutations(range(others), length)]


def small_wishes(pilots, boats, step):
    """Every step-th of all wishes of so many pilots and boats."""
    lists = [short_lists(boats)] * pilots + [short_lists(pilots)] * boats
    for drawn in itertools.islice(itertools.product(*lists), 0, None, step):
        yield list(drawn[:pilots]), list(drawn[pilots:])


def full_wishes(many, step):
    """Every step-th of all wishes in which each names all of the other side."""
    lists = [list(itertools.permutations(range(many)))] * (2 * many)
    for drawn in itertools.islice(itertools.product(*lists), 0, None, step):
        yield [list(wishes) for wishes in drawn[:many]], [list(wishes) for wishes in drawn[many:]]


def drawn_wishes(pilots, boats, seed):
    """Wishes of a greater size, the same at each run."""
    state = seed

    def below(limit):
        nonlocal state
        state = (state * 1103515245 + 12345) % 2 ** 31
        return (state >> 8) % limit

    def drawn_list(others):
        left = list(range(others))
        length = below(others + 1) if below(2) else others
        return [left.pop(below(len(left))) for place in range(length)]

    return [drawn_list(boats) for pilot in range(pilots)], [drawn_list(pilots) for boat in range(boats)]


class Told:
    """Point 8 word by word: who asks next is chosen from outside."""

    def __init__(self, pilots, boats):
        self.pilots = pilots
        self.boats = boats
        self.asked = tuple(() for pilot in pilots)
        self.pairs = ()

    def who_may_ask(self):
        paired_ones = [pilot for pilot, boat in self.pairs]
        return [
            pilot
            for pilot, wishes in enumerate(self.pilots)
            if pilot not in paired_ones and len(self.asked[pilot]) < len(wishes)
        ]

    def after(self, pilot):
        """The state in which this pilot has asked once more."""
        boat = [one for one in self.pilots[pilot] if one not in self.asked[pilot]][0]
        had = [one for one, other in self.pairs if other == boat]
        wishes = self.boats[boat]
        later = Told(self.pilots, self.boats)
        later.asked = self.asked[:pilot] + (self.asked[pilot] + (boat,),) + self.asked[pilot + 1:]
        later.pairs = self.pairs
        if pilot in wishes and (had == [] or wishes.index(pilot) < wishes.index(had[0])):
            kept = [pair for pair in self.pairs if pair[1] != boat]
            later.pairs = tuple(sorted(kept + [(pilot, boat)]))
        return later

    def how_many_askings(self):
        return sum(len(boats) for boats in self.asked)


def ends_of_every_order(pilots, boats):
    """All ends to which some order of asking leads: pairs and number of askings."""
    start = Told(pilots, boats)
    seen = {(start.asked, start.pairs)}
    waiting = [start]
    ends = set()
    while waiting:
        told = waiting.pop()
        able = told.who_may_ask()
        if not able:
            ends.add((told.pairs, told.how_many_askings()))
        for pilot in able:
            later = told.after(pilot)
            if (later.asked, later.pairs) not in seen:
                seen.add((later.asked, later.pairs))
                waiting.append(later)
    return ends


def end_of_one_order(pilots, boats, choose):
    told = Told(pilots, boats)
    turn = 0
    able = told.who_may_ask()
    while able:
        told = told.after(choose(able, turn))
        turn += 1
        able = told.who_may_ask()
    return list(told.pairs), turn


ORDERS = (
    lambda able, turn: able[0],
    lambda able, turn: able[-1],
    lambda able, turn: able[turn % len(able)],
    lambda able, turn: able[len(able) // 2],
)


def all_pairings(pilots, boats):
    """Every pairing of point 5, whether it stays or not."""
    def from_pilot(pilot, free):
        if pilot == len(pilots):
            return [[]]
        found = from_pilot(pilot + 1, free)
        for boat in free:
            if boat in pilots[pilot] and pilot in boats[boat]:
                rest = from_pilot(pilot + 1, [other for other in free if other != boat])
                found = found + [[(pilot, boat)] + pairs for pairs in rest]
        return found
    return from_pilot(0, list(range(len(boats))))


def place(wishes, partner):
    """How far behind a partner stands; to be alone is behind all."""
    return len(wishes) if partner is None else wishes.index(partner)


def nobody_is_loose(pilots, boats, pairs):
    boat_of = dict(pairs)
    pilot_of = {boat: pilot for pilot, boat in pairs}
    for pilot, wishes in enumerate(pilots):
        for boat in wishes[:place(wishes, boat_of.get(pilot))]:
            if pilot in boats[boat][:place(boats[boat], pilot_of.get(boat))]:
                return False
    return True


def turned(pairs):
    return sorted((boat, pilot) for pilot, boat in pairs)


class AskingCase(unittest.TestCase):
    def answers(self, pilots, boats, pairs, count):
        found = paired(pilots, boats)
        self.assertEqual(found, pairs)
        self.assertIs(type(found), list)
        for pair in found:
            self.assertIs(type(pair), tuple)
        number = askings(pilots, boats)
        self.assertEqual(number, count)
        self.assertIs(type(number), int)
        self.assertIs(stays(pilots, boats, found), True)
        self.assertTrue(nobody_is_loose(pilots, boats, found))


class NoneOfASide(AskingCase):
    def test_none_of_either(self):
        self.answers([], [], [], 0)

    def test_no_boats(self):
        self.answers([[]], [], [], 0)
        self.answers([[], [], []], [], [], 0)

    def test_no_pilots(self):
        self.answers([], [[]], [], 0)
        self.answers([], [[], [], []], [], 0)


class OnePilotAndOneBoat(AskingCase):
    def test_they_suit(self):
        self.answers([[0]], [[0]], [(0, 0)], 1)

    def test_only_the_pilot_names_the_boat(self):
        self.answers([[0]], [[]], [], 1)

    def test_only_the_boat_names_the_pilot(self):
        self.answers([[]], [[0]], [], 0)

    def test_neither_names_the_other(self):
        self.answers([[]], [[]], [], 0)


class Alone(AskingCase):
    def test_pilots_with_empty_lists(self):
        self.answers([[], [1], []], [[0, 1, 2], [0, 1, 2]], [(1, 1)], 1)

    def test_boats_with_empty_lists(self):
        self.answers([[0, 1], [0, 1]], [[], [1]], [(1, 1)], 4)

    def test_a_pilot_who_is_left_over(self):
        self.answers([[0], [0], [0]], [[1, 0, 2]], [(1, 0)], 3)

    def test_a_boat_that_is_left_over(self):
        self.answers([[2, 1, 0]], [[0], [0], [0]], [(0, 2)], 1)

    def test_a_boat_that_does_not_name_the_pilot_is_asked_in_vain(self):
        self.answers([[0, 1, 2]], [[], [], [0]], [(0, 2)], 3)

    def test_a_boat_that_has_a_pilot_and_does_not_name_another(self):
        self.answers([[0], [0, 1]], [[0], [1]], [(0, 0), (1, 1)], 3)
        self.answers([[0, 1], [0]], [[1], [0]], [(0, 1), (1, 0)], 3)

    def test_a_pilot_never_takes_a_boat_outside_the_list(self):
        self.answers([[0], [0]], [[0, 1], [0, 1]], [(0, 0)], 2)


class TakingAnother(AskingCase):
    def test_the_boat_takes_another_in_the_place_of_the_one_it_had(self):
        self.answers([[0], [0]], [[1, 0]], [(1, 0)], 2)
        self.answers([[0, 1], [0]], [[1, 0], [0]], [(0, 1), (1, 0)], 3)

    def test_the_boat_keeps_the_one_it_had(self):
        self.answers([[0], [0]], [[0, 1]], [(0, 0)], 2)
        self.answers([[0], [0, 1]], [[0, 1], [1]], [(0, 0), (1, 1)], 3)

    def test_one_who_is_left_goes_on_behind_the_boat_that_left_them(self):
        self.answers([[2, 0, 1], [2], [0]], [[2, 0], [0], [1, 0]], [(0, 1), (1, 2), (2, 0)], 5)

    def test_one_leaves_another_along_a_row(self):
        pilots = [[0, 1], [1, 2], [2, 3], [0]]
        boats = [[3, 0], [0, 1], [1, 2], [2]]
        self.answers(pilots, boats, [(0, 1), (1, 2), (2, 3), (3, 0)], 7)

    def test_one_leaves_another_until_nothing_is_left_to_ask(self):
        pilots = [[0, 1], [1, 2], [2], [0]]
        boats = [[3, 0], [0, 1], [1, 2]]
        self.answers(pilots, boats, [(0, 1), (1, 2), (3, 0)], 6)

    def test_pairs_are_told_from_the_least_pilot_to_the_greatest(self):
        self.answers([[2], [0], [1]], [[1], [2], [0]], [(0, 2), (1, 0), (2, 1)], 3)
        pilots = [[11 - pilot] for pilot in range(12)]
        boats = [[11 - boat] for boat in range(12)]
        self.answers(pilots, boats, [(pilot, 11 - pilot) for pilot in range(12)], 12)


class AtOdds(AskingCase):
    def test_a_ring_of_two(self):
        pilots, boats = [[0, 1], [1, 0]], [[1, 0], [0, 1]]
        self.answers(pilots, boats, [(0, 0), (1, 1)], 2)
        self.answers(boats, pilots, [(0, 1), (1, 0)], 2)

    def test_a_ring_of_three(self):
        pilots, boats = [[0, 1, 2], [1, 2, 0], [2, 0, 1]], [[1, 2, 0], [2, 0, 1], [0, 1, 2]]
        self.assertTrue(nobody_is_loose(pilots, boats, [(0, 1), (1, 2), (2, 0)]))
        self.answers(pilots, boats, [(0, 0), (1, 1), (2, 2)], 3)
        self.answers(boats, pilots, [(0, 1), (1, 2), (2, 0)], 3)

    def test_a_ring_into_which_another_pilot_comes(self):
        pilots = [[0, 1, 2], [1, 2, 0], [2, 0, 1], [0]]
        boats = [[1, 3, 2, 0], [2, 0, 1], [0, 1, 2]]
        self.answers(pilots, boats, [(0, 2), (1, 0), (2, 1)], 10)


class AHundred(AskingCase):
    def test_all_wish_the_same(self):
        for many in (100, 120):
            wishes = [list(range(many)) for number in range(many)]
            self.answers(wishes, wishes, [(number, number) for number in range(many)], many * (many + 1) // 2)

    def test_boats_wish_the_greatest_pilot_most(self):
        for many in (100, 120):
            pilots = [list(range(many)) for pilot in range(many)]
            boats = [list(range(many))[::-1] for boat in range(many)]
            pairs = [(pilot, many - 1 - pilot) for pilot in range(many)]
            self.answers(pilots, boats, pairs, many * (many + 1) // 2)
            self.answers(boats, pilots, pairs, many * (many + 1) // 2)

    def test_a_ring(self):
        for many in (100, 120):
            pilots = [[(pilot + step) % many for step in range(many)] for pilot in range(many)]
            boats = [[(boat + 1 + step) % many for step in range(many)] for boat in range(many)]
            self.answers(pilots, boats, [(number, number) for number in range(many)], many)
            self.answers(boats, pilots, [(number, (number + 1) % many) for number in range(many)], many)

    def test_nobody_is_wished_by_a_boat(self):
        pilots = [list(range(100)) for pilot in range(100)]
        self.answers(pilots, [[] for boat in range(100)], [], 10000)
        self.answers([[] for boat in range(100)], pilots, [], 0)

    def test_as_many_askings_as_full_lists_allow(self):
        # Each pilot asks round a ring of all boats but the last one, which is wished least by all;
        # each boat of the ring is asked by pilots whom it wishes more and more.
        many = 100
        ring = many - 1
        pilots = [[(pilot + step) % ring for step in range(ring)] + [ring] for pilot in range(many)]
        boats = [[(boat + 1 + step) % many for step in range(many)] for boat in range(many)]
        pairs, count = end_of_one_order(pilots, boats, ORDERS[1])
        self.assertEqual(count, many * ring + 1)
        self.answers(pilots, boats, pairs, count)

    def test_many_of_one_side_and_few_of_the_other(self):
        pilots = [[2, 0, 1] for pilot in range(100)]
        boats = [list(range(100))[::-1] for boat in range(3)]
        self.answers(pilots, boats, [(97, 1), (98, 0), (99, 2)], 100 + 99 + 98)
        self.answers(boats, pilots, [(0, 98), (1, 97), (2, 99)], 6)

    def test_drawn_wishes(self):
        for seed in range(3):
            pilots, boats = drawn_wishes(100, 100, seed)
            expected = end_of_one_order(pilots, boats, ORDERS[2])
            self.answers(pilots, boats, expected[0], expected[1])


class Many(AskingCase):
    def check_orders(self, pilots, boats):
        """Points 8 and 9: every order of asking leads to these pairs and this number."""
        found = paired(pilots, boats)
        self.assertEqual(ends_of_every_order(pilots, boats), {(tuple(found), askings(pilots, boats))})

    def check_best(self, pilots, boats):
        """Point 9: against all other pairings that stay."""
        found = paired(pilots, boats)
        staying = [pairs for pairs in all_pairings(pilots, boats) if nobody_is_loose(pilots, boats, pairs)]
        self.assertIn(found, staying)
        self.assertIs(stays(pilots, boats, found), True)
        for pairs in staying:
            for pilot, wishes in enumerate(pilots):
                ours, theirs = dict(found).get(pilot), dict(pairs).get(pilot)
                self.assertLessEqual(place(wishes, ours), place(wishes, theirs))
            self.assertEqual({pilot for pilot, boat in pairs}, {pilot for pilot, boat in found})
            self.assertEqual({boat for pilot, boat in pairs}, {boat for pilot, boat in found})
        return staying

    def check(self, pilots, boats):
        """Point 10 too: both ways round the same pairings stay."""
        with self.subTest(pilots=pilots, boats=boats):
            self.check_orders(pilots, boats)
            self.check_orders(boats, pilots)
            staying = self.check_best(pilots, boats)
            staying_turned = self.check_best(boats, pilots)
            self.assertEqual(sorted(turned(pairs) for pairs in staying), sorted(staying_turned))
            return len(staying)

    def test_all_wishes_of_two_and_fewer(self):
        for many in itertools.product(range(3), repeat=2):
            for pilots, boats in small_wishes(many[0], many[1], 1):
                self.check(pilots, boats)

    def test_wishes_of_two_and_three(self):
        for pilots, boats in small_wishes(2, 3, 101):
            self.check(pilots, boats)

    def test_wishes_of_three(self):
        for pilots, boats in small_wishes(3, 3, 32003):
            self.check(pilots, boats)

    def test_full_wishes_of_three(self):
        several = [self.check(pilots, boats) > 1 for pilots, boats in full_wishes(3, 97)]
        self.assertIn(True, several)
        self.assertIn(False, several)

    def test_drawn_wishes_of_four_and_five(self):
        for seed in range(60):
            self.check(*drawn_wishes(4, 4, seed))
        for seed in range(10):
            self.check(*drawn_wishes(5, 4, seed))

    def test_drawn_wishes_of_more_in_several_orders(self):
        for seed in range(40):
            pilots, boats = drawn_wishes(5 + seed % 9, 5 + seed % 7, seed)
            for choose in ORDERS:
                pairs, count = end_of_one_order(pilots, boats, choose)
                self.answers(pilots, boats, pairs, count)
                pairs, count = end_of_one_order(boats, pilots, choose)
                self.answers(boats, pilots, pairs, count)


class NothingIsChanged(unittest.TestCase):
    def test_all_lists_are_the_same_after_each_call(self):
        cases = [
            ([], []),
            ([[2, 0, 1], [2], [], [0]], [[3, 2, 0], [0], [1, 0]]),
            ([[0, 1], [1, 0]], [[1, 0], [0, 1]]),
            drawn_wishes(100, 100, 5),
        ]
        for pilots, boats in cases:
            for function in (paired, askings):
                handed = (copy.deepcopy(pilots), copy.deepcopy(boats))
                inner = handed[0] + handed[1]
                function(handed[0], handed[1])
                self.assertEqual(handed, (pilots, boats))
                for one, other in zip(inner, handed[0] + handed[1], strict=True):
                    self.assertIs(one, other)

    def test_an_answer_is_the_callers_own(self):
        pilots, boats = [[0]], [[0]]
        paired(pilots, boats).append((5, 5))
        self.assertEqual(paired(pilots, boats), [(0, 0)])
        self.assertEqual((pilots, boats), ([[0]], [[0]]))

    def test_the_same_question_has_the_same_answer(self):
        pilots, boats = [[0, 1], [0]], [[1, 0], [0]]
        for turn in range(3):
            self.assertEqual(paired(pilots, boats), [(0, 1), (1, 0)])
            self.assertEqual(askings(pilots, boats), 3)
            self.assertEqual(paired([[0]], [[]]), [])

    def test_one_list_may_be_handed_in_for_both_sides(self):
        both = [[1, 0], [0, 1]]
        self.assertEqual(paired(both, both), [(0, 1), (1, 0)])
        self.assertEqual(askings(both, both), 2)
        self.assertEqual(both, [[1, 0], [0, 1]])


if __name__ == "__main__":
    unittest.main()
