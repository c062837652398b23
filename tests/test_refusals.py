"""Points 2 and 4: which wishes are refused, by each of the four functions."""
import copy
import unittest

from pilotpair.asking import askings, paired
from pilotpair.errors import NoSuch, PairError, Twice
from pilotpair.staying import loose, stays


def loose_without_pairs(pilots, boats):
    return loose(pilots, boats, [])


def stays_without_pairs(pilots, boats):
    return stays(pilots, boats, [])


FOUR = (paired, askings, loose_without_pairs, stays_without_pairs)


class RefusalCase(unittest.TestCase):
    def refused(self, kind, pilots, boats):
        """Each of the four refuses, with that very class, and changes nothing."""
        for function in FOUR:
            with self.subTest(function=function.__name__, pilots=pilots, boats=boats):
                before = copy.deepcopy((pilots, boats))
                with self.assertRaises(PairError) as caught:
                    function(pilots, boats)
                self.assertIs(type(caught.exception), kind)
                self.assertEqual((pilots, boats), before)

    def refused_either_way(self, kind, pilots, boats):
        self.refused(kind, pilots, boats)
        self.refused(kind, boats, pilots)

    def taken(self, pilots, boats):
        for function in FOUR:
            with self.subTest(function=function.__name__, pilots=pilots, boats=boats):
                function(pilots, boats)

    def taken_either_way(self, pilots, boats):
        self.taken(pilots, boats)
        self.taken(boats, pilots)


class NumbersThatAreNotThere(RefusalCase):
    def test_below_nought(self):
        for number in (-1, -2, -3, -100, -10 ** 30):
            self.refused(NoSuch, [[0], [number]], [[0], [1]])
            self.refused(NoSuch, [[0], [1]], [[0], [number]])

    def test_as_many_as_there_are(self):
        self.refused(NoSuch, [[2], []], [[], []])
        self.refused(NoSuch, [[], []], [[2], []])

    def test_greater(self):
        for number in (3, 4, 100, 10 ** 30):
            self.refused(NoSuch, [[number], []], [[], []])
            self.refused(NoSuch, [[], []], [[], [number]])

    def test_a_number_too_long_to_be_written_out(self):
        # Python refuses to write such a number with an error of its own.
        for number in (10 ** 6000, -10 ** 6000):
            self.refused_either_way(NoSuch, [[number]], [[]])

    def test_how_many_there_are_of_the_other_side_counts(self):
        one, three = [[]], [[], [], []]
        for number in (1, 2):
            self.refused(NoSuch, [[], [], [number]], one)
            self.refused(NoSuch, one, [[], [], [number]])
            self.taken([[number]], three)
            self.taken(three, [[number]])

    def test_none_of_the_other_side(self):
        for number in (-1, 0, 1):
            self.refused_either_way(NoSuch, [[number]], [])
            self.refused_either_way(NoSuch, [[], [], [number]], [])

    def test_at_each_place_of_a_list(self):
        for wrong in (-1, 2):
            for wishes in ([wrong, 0, 1], [0, wrong, 1], [0, 1, wrong]):
                self.refused_either_way(NoSuch, [wishes, [0]], [[0], [1]])

    def test_in_each_list_of_a_side(self):
        for wrong in (-1, 3):
            for place in range(3):
                side = [[0, 1, 2], [1], []]
                side[place] = side[place] + [wrong]
                self.refused_either_way(NoSuch, side, [[0], [1], [2]])

    def test_where_no_asking_comes_to_it(self):
        # The first boat takes the pilot, and nobody asks the second one.
        self.refused(NoSuch, [[0, 9]], [[0], []])
        self.refused(NoSuch, [[0]], [[0], [9]])
        self.refused(NoSuch, [[]], [[-1]])


class NumbersTwice(RefusalCase):
    def test_side_by_side(self):
        self.refused_either_way(Twice, [[0, 0]], [[0]])
        self.refused_either_way(Twice, [[1, 1], []], [[0], [1]])

    def test_apart(self):
        self.refused_either_way(Twice, [[0, 1, 0]], [[0], [0]])
        self.refused_either_way(Twice, [[2, 0, 1, 2]], [[], [], []])
        self.refused_either_way(Twice, [[2, 1, 0, 1]], [[], [], []])

    def test_more_than_twice(self):
        self.refused_either_way(Twice, [[0, 0, 0]], [[0]])

    def test_in_each_list_of_a_side(self):
        for place in range(3):
            side = [[0], [1], [2]]
            side[place] = [2, 1, 2]
            self.refused_either_way(Twice, side, [[0], [1], [2]])

    def test_in_lists_of_both_sides(self):
        self.refused(Twice, [[0, 0]], [[0, 0]])

    def test_where_no_asking_comes_to_it(self):
        self.refused(Twice, [[0, 1, 1]], [[0], []])
        self.refused(Twice, [[0]], [[0], [0, 0]])

    def test_in_a_long_list(self):
        wishes = list(range(100)) + [0]
        self.refused_either_way(Twice, [wishes], [[0] for number in range(100)])


class Both(RefusalCase):
    def test_in_one_list(self):
        for wrong in (-1, 1):
            self.refused_either_way(NoSuch, [[0, 0, wrong]], [[0]])
            self.refused_either_way(NoSuch, [[wrong, 0, 0]], [[0]])

    def test_one_number_that_is_both(self):
        for wrong in (-1, 1):
            self.refused_either_way(NoSuch, [[wrong, wrong]], [[0]])

    def test_in_different_lists_of_one_side(self):
        for wrong in (-1, 2):
            self.refused_either_way(NoSuch, [[0, 0], [wrong]], [[0], [1]])
            self.refused_either_way(NoSuch, [[wrong], [0, 0]], [[0], [1]])

    def test_one_in_each_side(self):
        for wrong in (-1, 2):
            self.refused(NoSuch, [[0, 0], []], [[], [wrong]])
            self.refused(NoSuch, [[], [0, 0]], [[wrong], []])
            self.refused(NoSuch, [[], [wrong]], [[0, 0], []])
            self.refused(NoSuch, [[wrong], []], [[], [0, 0]])


class GoodWishes(RefusalCase):
    def test_none_of_either_side(self):
        self.taken([], [])

    def test_none_of_one_side(self):
        self.taken_either_way([[]], [])
        self.taken_either_way([[], [], []], [])

    def test_empty_lists(self):
        self.taken([[]], [[]])
        self.taken_either_way([[], []], [[], [], []])
        self.taken_either_way([[], [1]], [[0, 1], []])

    def test_least_and_greatest_numbers(self):
        self.taken_either_way([[0], [2], [2, 0]], [[2], [0], [0, 2]])
        self.taken_either_way([[2, 0]], [[0], [], [0]])

    def test_one_number_in_several_lists(self):
        self.taken_either_way([[0], [0], [0]], [[2, 1, 0]])
        self.taken_either_way([[0, 1], [0, 1]], [[0, 1], [0, 1]])

    def test_a_hundred_and_somewhat_beyond(self):
        for many in (100, 101, 120):
            full = [list(range(many)) for number in range(many)]
            self.taken(full, full)


class WithPairs(RefusalCase):
    """A pairing that is handed in with wrong wishes doesn't change the refusal."""

    def refused_with(self, kind, pilots, boats, pairs):
        for function in (loose, stays):
            with self.subTest(function=function.__name__, pilots=pilots, boats=boats):
                with self.assertRaises(PairError) as caught:
                    function(pilots, boats, pairs)
                self.assertIs(type(caught.exception), kind)

    def test_no_such(self):
        for wrong in (-1, 2, 3):
            self.refused_with(NoSuch, [[0, wrong], [1]], [[0], [1]], [(0, 0), (1, 1)])
            self.refused_with(NoSuch, [[0], [1]], [[0], [1, wrong]], [(0, 0), (1, 1)])

    def test_twice(self):
        self.refused_with(Twice, [[0, 1, 1], [1]], [[0], [1]], [(0, 0), (1, 1)])
        self.refused_with(Twice, [[0], [1]], [[0], [1, 0, 0]], [(0, 0), (1, 1)])

    def test_both(self):
        self.refused_with(NoSuch, [[0, 1, 1], [1]], [[0], [1, 7]], [(0, 0), (1, 1)])
        self.refused_with(NoSuch, [[0, -1], [1]], [[0], [1, 1]], [(0, 0), (1, 1)])


if __name__ == "__main__":
    unittest.main()
