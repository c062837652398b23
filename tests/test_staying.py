"""Points 1, 3, 5 to 7 and 10, and pilotpair/staying.py of the interface: loose and stays."""
import copy
import itertools
import unittest

from pilotpair.staying import loose, stays


def short_lists(others):
    """Every list of wishes that names numbers below `others`, each at most once."""
    return [list(wishes) for length in range(others + 1) for wishes in itertools.permutations(range(others), length)]


def small_wishes(pilots, boats, step):
    """Every step-th of all wishes of so many pilots and boats."""
    lists = [short_lists(boats)] * pilots + [short_lists(pilots)] * boats
    for drawn in itertools.islice(itertools.product(*lists), 0, None, step):
        yield list(drawn[:pilots]), list(drawn[pilots:])


def all_pairings(pilots, boats):
    """Every pairing of point 5, whether it stays or not."""
    def from_pilot(pilot, free):
        if pilot == len(pilots):
            return [[]]
        found = from_pilot(pilot + 1, free)
        for boat in free:
            if boat in pilots[pilot] and pilot in boats[boat]:
                rest = from_pilot(pilot + 1, [other for other in free if other != boat])
                found = found + [[(pilot, boat)] + pairs for pairs in rest]
        return found
    return from_pilot(0, list(range(len(boats))))


def wished_more(wishes, partner):
    """Those of a list whom its owner would rather have: all, or those ahead of the partner."""
    return set(wishes if partner is None else wishes[:wishes.index(partner)])


def loose_by_the_words(pilots, boats, pairs):
    """Points 6 and 7 told another way: by whom each wishes more than what they have."""
    boat_of = {pilot: boat for pilot, boat in pairs}
    pilot_of = {boat: pilot for pilot, boat in pairs}
    return [
        (pilot, boat)
        for pilot in range(len(pilots))
        for boat in range(len(boats))
        if boat in wished_more(pilots[pilot], boat_of.get(pilot))
        and pilot in wished_more(boats[boat], pilot_of.get(boat))
    ]


def turned(pairs):
    return [(boat, pilot) for pilot, boat in pairs]


class StayingCase(unittest.TestCase):
    def answers(self, pilots, boats, pairs, expected):
        found = loose(pilots, boats, pairs)
        self.assertEqual(found, expected)
        self.assertIs(type(found), list)
        for pair in found:
            self.assertIs(type(pair), tuple)
        self.assertIs(stays(pilots, boats, pairs), expected == [])


class NobodyLoose(StayingCase):
    def test_each_has_the_first_wish(self):
        self.answers([[0, 1], [1, 0]], [[0, 1], [1, 0]], [(0, 0), (1, 1)], [])

    def test_pilots_and_boats_at_odds(self):
        pilots, boats = [[0, 1], [1, 0]], [[1, 0], [0, 1]]
        self.answers(pilots, boats, [(0, 0), (1, 1)], [])
        self.answers(pilots, boats, [(0, 1), (1, 0)], [])

    def test_the_pilot_alone_is_wished_less(self):
        self.answers([[0], [0]], [[1, 0]], [(1, 0)], [])

    def test_the_boat_alone_is_wished_less(self):
        self.answers([[1, 0]], [[0], [0]], [(0, 1)], [])

    def test_only_the_pilot_would_rather(self):
        self.answers([[0, 1], [0, 1]], [[1, 0], [1, 0]], [(0, 1), (1, 0)], [])

    def test_only_the_boat_would_rather(self):
        self.answers([[0, 1], [1, 0]], [[1, 0], [0, 1]], [(0, 0), (1, 1)], [])


class SomeLoose(StayingCase):
    def test_both_are_alone(self):
        self.answers([[0]], [[0]], [], [(0, 0)])

    def test_the_pilot_is_alone_and_the_boat_paired(self):
        self.answers([[0], [0]], [[1, 0]], [(0, 0)], [(1, 0)])

    def test_the_boat_is_alone_and_the_pilot_paired(self):
        self.answers([[1, 0]], [[0], [0]], [(0, 0)], [(0, 1)])

    def test_both_are_paired_with_others(self):
        self.answers([[0, 1], [0, 1]], [[0, 1], [0, 1]], [(0, 1), (1, 0)], [(0, 0)])
        self.answers([[1, 0], [1, 0]], [[1, 0], [1, 0]], [(0, 1), (1, 0)], [(1, 1)])

    def test_in_the_order_of_the_numbers_and_not_of_the_wishes(self):
        self.answers(
            [[2, 0, 1], [1, 2, 0], [0, 2]],
            [[2, 1, 0], [1, 0], [2, 0, 1]],
            [],
            [(0, 0), (0, 1), (0, 2), (1, 0), (1, 1), (1, 2), (2, 0), (2, 2)],
        )

    def test_in_the_order_of_the_numbers_with_pairs(self):
        self.answers(
            [[2, 1, 0], [2, 1, 0], [2, 1, 0]],
            [[2, 1, 0], [2, 1, 0], [2, 1, 0]],
            [(1, 1), (2, 0), (0, 2)],
            [(1, 2), (2, 1), (2, 2)],
        )

    def test_numbers_of_two_digits_are_ordered_by_size(self):
        pilots = [[] for number in range(12)]
        pilots[10] = [11, 2, 10]
        pilots[9] = [10, 9]
        boats = [[10, 9] for number in range(12)]
        self.answers(pilots, boats, [], [(9, 9), (9, 10), (10, 2), (10, 10), (10, 11)])

    def test_one_who_has_number_nought_is_not_alone(self):
        self.answers([[0, 1]], [[0], [0]], [(0, 0)], [])
        self.answers([[0], [0]], [[0, 1]], [(0, 0)], [])


class NoPairs(StayingCase):
    def test_none_of_a_side(self):
        self.answers([], [], [], [])
        self.answers([[], []], [], [], [])
        self.answers([], [[], []], [], [])

    def test_empty_lists(self):
        self.answers([[]], [[]], [], [])
        self.answers([[], []], [[], [], []], [], [])

    def test_all_who_suit_are_loose(self):
        self.answers([[1], [1, 0]], [[1, 0], [0]], [], [(0, 1), (1, 0)])


class OnlyOneNamesTheOther(StayingCase):
    def test_alone(self):
        self.answers([[0]], [[]], [], [])
        self.answers([[]], [[0]], [], [])

    def test_the_boat_is_paired(self):
        self.answers([[0], [0]], [[1]], [(1, 0)], [])
        self.answers([[], [0]], [[0, 1]], [(1, 0)], [])

    def test_the_pilot_is_paired(self):
        self.answers([[0, 1]], [[], [0]], [(0, 1)], [])
        self.answers([[1]], [[0], [0]], [(0, 1)], [])

    def test_both_are_paired(self):
        self.answers([[0, 1], [0]], [[1], [0]], [(0, 1), (1, 0)], [])
        self.answers([[1], [0]], [[0, 1], [0]], [(0, 1), (1, 0)], [])


class OrderOfThePairs(StayingCase):
    def test_every_order_has_the_same_answer(self):
        pilots = [[2, 1, 0, 3], [3, 2, 1, 0], [0, 1, 2, 3], [1, 0, 3, 2]]
        boats = [[0, 1, 2, 3], [3, 0, 2, 1], [1, 0, 3, 2], [2, 1, 0, 3]]
        pairs = [(0, 0), (1, 1), (2, 2), (3, 3)]
        expected = loose_by_the_words(pilots, boats, pairs)
        self.assertGreater(len(expected), 2)
        for order in itertools.permutations(pairs):
            self.answers(pilots, boats, list(order), expected)

    def test_every_order_of_one_that_stays(self):
        pilots = [[2, 0], [0, 1], [1, 2]]
        boats = [[0, 1], [1, 2], [2, 0]]
        for order in itertools.permutations([(0, 2), (1, 0), (2, 1)]):
            self.answers(pilots, boats, list(order), [])


class Many(StayingCase):
    def check(self, pilots, boats):
        for pairs in all_pairings(pilots, boats):
            expected = loose_by_the_words(pilots, boats, pairs)
            with self.subTest(pilots=pilots, boats=boats, pairs=pairs):
                self.answers(pilots, boats, pairs[::-1], expected)
                self.answers(boats, pilots, turned(pairs), sorted(turned(expected)))

    def test_all_wishes_of_two_and_fewer(self):
        for many in itertools.product(range(3), repeat=2):
            for pilots, boats in small_wishes(many[0], many[1], 1):
                self.check(pilots, boats)

    def test_wishes_of_two_and_three(self):
        for pilots, boats in small_wishes(2, 3, 41):
            self.check(pilots, boats)

    def test_wishes_of_three(self):
        for pilots, boats in small_wishes(3, 3, 32003):
            self.check(pilots, boats)

    def test_a_hundred_and_somewhat_beyond(self):
        for many in (100, 120):
            pilots = [[(pilot + place) % many for place in range(many)] for pilot in range(many)]
            boats = [[(boat - place) % many for place in range(many)] for boat in range(many)]
            for shift in (0, 1, 7, many - 1):
                pairs = [(pilot, (pilot + shift) % many) for pilot in range(many)]
                self.answers(pilots, boats, pairs, loose_by_the_words(pilots, boats, pairs))
            everyone = list(itertools.product(range(many), repeat=2))
            self.answers(pilots, boats, [], everyone)


class NothingIsChanged(unittest.TestCase):
    def test_all_lists_are_the_same_after_each_call(self):
        pilots = [[2, 0, 1], [1, 2, 0], [], [0, 2]]
        boats = [[3, 1, 0], [1, 0], [3, 0, 1]]
        for pairs in all_pairings(pilots, boats) + [[(3, 0), (0, 2), (1, 1)]]:
            for function in (loose, stays):
                handed = (copy.deepcopy(pilots), copy.deepcopy(boats), list(pairs))
                inner = handed[0] + handed[1]
                function(handed[0], handed[1], handed[2])
                self.assertEqual(handed, (pilots, boats, pairs))
                for one, other in zip(inner, handed[0] + handed[1], strict=True):
                    self.assertIs(one, other)

    def test_an_answer_is_the_callers_own(self):
        pilots, boats, pairs = [[0]], [[0]], []
        loose(pilots, boats, pairs).append((5, 5))
        self.assertEqual(loose(pilots, boats, pairs), [(0, 0)])
        self.assertEqual((pilots, boats, pairs), ([[0]], [[0]], []))

    def test_the_same_question_has_the_same_answer(self):
        pilots, boats = [[0, 1], [0, 1]], [[0, 1], [0, 1]]
        for turn in range(3):
            self.assertEqual(loose(pilots, boats, [(0, 1), (1, 0)]), [(0, 0)])
            self.assertIs(stays(pilots, boats, [(0, 1), (1, 0)]), False)
            self.assertIs(stays(pilots, boats, [(0, 0), (1, 1)]), True)


if __name__ == "__main__":
    unittest.main()
