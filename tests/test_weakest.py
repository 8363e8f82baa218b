"""Point 7, by weakest alone."""

import itertools
import unittest

from guildvote.counting import weakest
from plain_count import Numbers, plain_weakest, unchanged


class Weakest(unittest.TestCase):
    def leaves(self, sign, history):
        self.assertEqual(unchanged(self, weakest, history), sign)

    def test_one_round(self):
        self.leaves(1, [[(0, 3), (1, 2), (2, 4)]])
        self.leaves(0, [[(0, 1), (1, 2), (2, 4)]])
        self.leaves(2, [[(0, 1), (1, 2), (2, 0)]])

    def test_one_sign(self):
        self.leaves(5, [[(5, 0)]])
        self.leaves(0, [[(0, 8)]])
        self.leaves(1, [[(0, 0), (1, 9)], [(1, 9)]])

    def test_the_greatest_number_of_those_that_are_the_same(self):
        self.leaves(2, [[(0, 1), (1, 1), (2, 1)]])
        self.leaves(1, [[(0, 1), (1, 1), (2, 3)]])
        self.leaves(10, [[(2, 1), (9, 1), (10, 1)]])
        self.leaves(3, [[(0, 2), (1, 1), (3, 1)], [(0, 2), (1, 1), (3, 1)]])

    def test_the_last_round_goes_ahead_of_all_earlier_ones(self):
        self.leaves(2, [[(0, 0), (1, 5), (2, 9)], [(0, 4), (1, 5), (2, 3)]])
        self.leaves(0, [[(0, 9), (1, 0)], [(0, 9), (1, 0)], [(0, 1), (1, 2)]])

    def test_the_round_just_ahead(self):
        self.leaves(0, [[(0, 2), (1, 3), (2, 1)], [(0, 3), (1, 3)]])
        self.leaves(1, [[(0, 0), (1, 7), (2, 9)], [(0, 5), (1, 4), (2, 4)], [(0, 6), (1, 6)]])

    def test_the_round_just_ahead_goes_ahead_of_the_first(self):
        self.leaves(0, [[(0, 9), (1, 1)], [(0, 2), (1, 3)], [(0, 4), (1, 4)]])

    def test_the_round_ahead_of_that(self):
        self.leaves(0, [[(0, 3), (1, 4), (2, 2), (3, 1)], [(0, 4), (1, 4), (2, 2)], [(0, 4), (1, 4)]])

    def test_back_to_the_first_of_many(self):
        same = [[(0, 5), (1, 5), (2, 5)]] * 40
        self.leaves(0, [[(0, 4), (1, 5), (2, 5)]] + same)
        self.leaves(1, [[(0, 5), (1, 4), (2, 5)]] + same)
        self.leaves(2, same)

    def test_a_sign_set_aside_does_not_come_back(self):
        self.leaves(0, [
            [(0, 7), (1, 8), (2, 0), (3, 0)],
            [(0, 2), (1, 2), (2, 3), (3, 0)],
            [(0, 1), (1, 1), (2, 1), (3, 9)],
        ])

    def test_the_greatest_number_is_among_those_left_alone(self):
        self.leaves(1, [
            [(0, 2), (1, 2), (2, 3), (3, 0)],
            [(0, 1), (1, 1), (2, 1), (3, 9)],
        ])

    def test_signs_that_no_longer_stand_do_not_leave_again(self):
        self.leaves(1, [[(0, 0), (1, 3), (2, 4)], [(1, 3), (2, 4)]])
        self.leaves(2, [[(0, 0), (1, 3), (2, 3), (7, 0)], [(1, 3), (2, 3)]])

    def test_negative_votes(self):
        self.leaves(1, [[(0, -1), (1, -2), (2, 0)]])
        self.leaves(2, [[(0, -5), (1, -5), (2, -6)], [(0, -1), (1, 0), (2, -1)]])

    def test_very_great_votes(self):
        great = 10 ** 40
        self.leaves(0, [[(0, great), (1, great + 1)]])
        self.leaves(0, [[(0, -great - 1), (1, -great)]])
        self.leaves(0, [[(0, great), (1, great + 1)], [(0, 10 ** 6000), (1, 10 ** 6000)]])

    def test_several_signs_fewer_from_round_to_round(self):
        self.leaves(4, [
            [(0, 1), (1, 2), (2, 9), (3, 0), (4, 2), (5, 0), (6, 3), (7, 0)],
            [(0, 1), (2, 9), (4, 5), (6, 6)],
            [(4, 7), (6, 7)],
        ])
        self.leaves(6, [[(sign, 0) for sign in range(9)], [(2, 1), (4, 1), (6, 1)], [(2, 3), (6, 3)]])

    def test_a_sign_that_is_chosen_can_be_asked_for_too(self):
        self.leaves(1, [[(0, 9), (1, 1)]])

    def test_all_small_histories(self):
        for had in itertools.product([0, 1], repeat=9):
            history = [list(enumerate(had[start:start + 3])) for start in (0, 3, 6)]
            self.leaves(plain_weakest(history), history)

    def test_mixed_histories(self):
        numbers = Numbers(5)
        for _ in range(1500):
            signs = list(range(1 + numbers.below(9)))
            history = []
            for _ in range(1 + numbers.below(6)):
                history.append([(sign, numbers.below(3) - 1) for sign in signs])
                signs = sorted(numbers.mixed(signs)[:1 + numbers.below(len(signs))])
            self.leaves(plain_weakest(history), history)


if __name__ == "__main__":
    unittest.main()
