"""Points 2 and 6 and pilotpair/wishes.py of the interface: rather."""
import itertools
import unittest

from pilotpair.wishes import rather


def by_rank(wishes, one, other):
    """The rule of point 6 told another way: by the place of each number."""
    rank = {number: place for place, number in enumerate(wishes)}
    if one not in rank:
        return False
    return other is None or (other in rank and rank[one] < rank[other])


class RatherCase(unittest.TestCase):
    def would(self, wishes, one, other):
        self.assertIs(rather(wishes, one, other), True)

    def would_not(self, wishes, one, other):
        self.assertIs(rather(wishes, one, other), False)


class Alone(RatherCase):
    def test_takes_each_in_the_list(self):
        self.would([4, 2, 7], 4, None)
        self.would([4, 2, 7], 2, None)
        self.would([4, 2, 7], 7, None)

    def test_takes_the_only_one(self):
        self.would([3], 3, None)

    def test_takes_nought(self):
        self.would([0], 0, None)
        self.would([5, 0], 0, None)

    def test_never_takes_one_outside_the_list(self):
        self.would_not([4, 2, 7], 3, None)
        self.would_not([4, 2, 7], 0, None)
        self.would_not([4, 2, 7], 8, None)

    def test_never_takes_anyone_with_an_empty_list(self):
        self.would_not([], 0, None)
        self.would_not([], 1, None)


class Paired(RatherCase):
    def test_ahead(self):
        self.would([4, 2, 7], 4, 2)
        self.would([4, 2, 7], 2, 7)
        self.would([4, 2, 7], 4, 7)

    def test_behind(self):
        self.would_not([4, 2, 7], 2, 4)
        self.would_not([4, 2, 7], 7, 2)
        self.would_not([4, 2, 7], 7, 4)

    def test_the_same(self):
        for number in (4, 2, 7):
            self.would_not([4, 2, 7], number, number)
        self.would_not([0], 0, 0)

    def test_one_outside_the_list(self):
        for other in (4, 2, 7):
            self.would_not([4, 2, 7], 3, other)
            self.would_not([4, 2, 7], 0, other)
            self.would_not([4, 2, 7], 9, other)

    def test_place_counts_and_not_size(self):
        self.would([9, 1], 9, 1)
        self.would_not([9, 1], 1, 9)
        self.would([1, 9], 1, 9)
        self.would_not([1, 9], 9, 1)

    def test_nought_is_not_taken_for_none(self):
        self.would_not([0, 5], 5, 0)
        self.would([5, 0], 5, 0)
        self.would([0, 5], 0, 5)
        self.would_not([5, 0], 0, 5)

    def test_first_and_last(self):
        self.would([6, 3, 8, 1], 6, 1)
        self.would_not([6, 3, 8, 1], 1, 6)
        self.would([6, 3, 8, 1], 8, 1)
        self.would_not([6, 3, 8, 1], 3, 6)


class RefusesNothing(RatherCase):
    def test_numbers_that_no_side_has(self):
        self.would_not([4, 2, 7], -1, None)
        self.would_not([4, 2, 7], -1, 4)
        self.would_not([4, 2, 7], 1000, None)
        self.would_not([4, 2, 7], 10 ** 30, 7)

    def test_such_numbers_within_the_list(self):
        self.would([-1, 1000], -1, 1000)
        self.would_not([-1, 1000], 1000, -1)
        self.would([-1, 1000], -1, None)

    def test_other_outside_the_list_does_not_stand_behind(self):
        self.would_not([4, 2, 7], 4, 5)
        self.would_not([], 4, 5)


class Many(RatherCase):
    def test_all_short_lists(self):
        for length in range(5):
            for wishes in itertools.permutations(range(5), length):
                for one in range(-1, 6):
                    for other in (None,) + wishes:
                        with self.subTest(wishes=wishes, one=one, other=other):
                            answer = rather(list(wishes), one, other)
                            self.assertIs(answer, by_rank(wishes, one, other))

    def test_a_hundred_and_somewhat_beyond(self):
        for length, step in ((100, 37), (131, 50)):
            wishes = [place * step % length for place in range(length)]
            self.assertEqual(len(set(wishes)), length)
            for one in range(-1, length + 1):
                for other in [None] + wishes:
                    answer = rather(wishes, one, other)
                    self.assertIs(answer, by_rank(wishes, one, other), (length, one, other))


class ListStays(unittest.TestCase):
    def test_the_list_is_the_same_after_the_call(self):
        for start in ([], [0], [4, 2, 7], [9, 1, 0, 3], list(range(99, -1, -1))):
            for one in [-1, 50] + start:
                for other in [None] + start:
                    wishes = list(start)
                    rather(wishes, one, other)
                    self.assertEqual(wishes, start)

    def test_the_same_question_has_the_same_answer(self):
        wishes = [4, 2, 7]
        for one, other in ((4, 2), (2, 4), (4, 4), (3, 4), (7, None), (3, None)):
            first = rather(wishes, one, other)
            rather([2, 4], 2, 4)
            self.assertIs(rather(wishes, one, other), first)


if __name__ == "__main__":
    unittest.main()
