"""Points 2, 4 and 5: what a ballot counts for, and the votes of a round."""

import itertools
import unittest

from guildvote.ballots import first_of, votes
from plain_count import Numbers, plain_votes, unchanged


class FirstOf(unittest.TestCase):
    def first(self, ballot, standing):
        return unchanged(self, first_of, ballot, standing)

    def test_the_first_on_the_ballot(self):
        self.assertEqual(self.first([2, 0, 1], [0, 1, 2]), 2)
        self.assertEqual(self.first([1], [0, 1, 2]), 1)

    def test_nought_is_a_sign_like_others(self):
        self.assertEqual(self.first([0, 1], [0, 1]), 0)
        self.assertEqual(self.first([3, 0, 1], [0, 1]), 0)

    def test_signs_that_do_not_stand_are_passed_over(self):
        self.assertEqual(self.first([2, 0, 1], [0, 1]), 0)
        self.assertEqual(self.first([2, 0, 1], [1]), 1)
        self.assertEqual(self.first([4, 3, 2, 1, 0], [1, 2]), 2)

    def test_empty_ballot(self):
        self.assertIsNone(self.first([], [0, 1, 2]))

    def test_spent_ballot(self):
        self.assertIsNone(self.first([2, 0], [1, 3]))

    def test_nothing_stands(self):
        self.assertIsNone(self.first([2, 0], []))
        self.assertIsNone(self.first([], []))

    def test_the_order_of_standing_makes_no_difference(self):
        for standing in itertools.permutations([0, 3, 4, 7]):
            self.assertEqual(self.first([1, 4, 0, 7], list(standing)), 4)
            self.assertEqual(self.first([7, 0], list(standing)), 7)
            self.assertIsNone(self.first([1, 2], list(standing)))


class Votes(unittest.TestCase):
    def votes(self, ballots, standing):
        return unchanged(self, votes, ballots, standing)

    def test_how_many_count_for_each(self):
        ballots = [[0, 1], [1, 0], [1], [2], [2, 1, 0], [2]]
        self.assertEqual(self.votes(ballots, [0, 1, 2]), [(0, 1), (1, 2), (2, 3)])
        self.assertEqual(self.votes(ballots, [0, 1]), [(0, 1), (1, 3)])
        self.assertEqual(self.votes(ballots, [0]), [(0, 3)])

    def test_a_list_of_tuples(self):
        told = self.votes([[1], [0]], [1, 0])
        self.assertIs(told.__class__, list)
        self.assertEqual([pair.__class__ for pair in told], [tuple, tuple])
        self.assertEqual([number.__class__ for pair in told for number in pair], [int] * 4)

    def test_a_sign_without_votes_is_told_too(self):
        self.assertEqual(self.votes([[1]], [0, 1, 2]), [(0, 0), (1, 1), (2, 0)])

    def test_least_to_greatest_whatever_the_order_of_standing(self):
        ballots = [[10, 2], [9], [2, 9], [2]]
        for standing in itertools.permutations([2, 9, 10, 30]):
            self.assertEqual(self.votes(ballots, list(standing)), [(2, 2), (9, 1), (10, 1), (30, 0)])

    def test_none_stands(self):
        self.assertEqual(self.votes([[0], [1, 0]], []), [])
        self.assertEqual(self.votes([], []), [])

    def test_no_ballots_and_empty_ballots(self):
        self.assertEqual(self.votes([], [1, 0]), [(0, 0), (1, 0)])
        self.assertEqual(self.votes([[], []], [1, 0]), [(0, 0), (1, 0)])

    def test_each_call_answers_a_list_of_its_own(self):
        ballots, standing = [[0]], [0, 1]
        votes(ballots, standing).clear()
        self.assertEqual(votes(ballots, standing), [(0, 1), (1, 0)])

    def test_against_the_plain_count(self):
        numbers = Numbers(11)
        for _ in range(600):
            count = numbers.below(9)
            ballots = numbers.ballots(count, numbers.below(12))
            standing = numbers.ballot(count)
            told = self.votes(ballots, standing)
            self.assertEqual(told, plain_votes(ballots, standing))
            unspent = [ballot for ballot in ballots if first_of(ballot, standing) is not None]
            self.assertEqual(sum(had for _, had in told), len(unspent))


if __name__ == "__main__":
    unittest.main()
