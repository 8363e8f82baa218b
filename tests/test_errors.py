"""Point 3: what is refused, with which error, and by whom."""

import unittest

from guildvote.ballots import first_of, votes
from guildvote.counting import all_rounds, chosen, leavers
from guildvote.errors import NoSign, Twice, VoteError
from plain_count import unchanged

REFUSING = [all_rounds, leavers, chosen]


class Classes(unittest.TestCase):
    def test_each_refusal_is_a_vote_error(self):
        self.assertEqual(NoSign.__bases__, (VoteError,))
        self.assertEqual(Twice.__bases__, (VoteError,))

    def test_vote_error_is_a_value_error(self):
        self.assertEqual(VoteError.__bases__, (ValueError,))


class Refusals(unittest.TestCase):
    def refused(self, error, count, ballots):
        for function in REFUSING:
            with self.subTest(function=function.__name__, count=count):
                with self.assertRaises(VoteError) as caught:
                    unchanged(self, function, count, ballots)
                self.assertIs(caught.exception.__class__, error)

    def taken(self, count, ballots):
        for function in REFUSING:
            with self.subTest(function=function.__name__, count=count):
                unchanged(self, function, count, ballots)

    def test_below_nought(self):
        for number in [-1, -2, -3, -4, -100, -10 ** 30]:
            self.refused(NoSign, 3, [[number]])
            self.refused(NoSign, 3, [[0, 1], [2, number, 1]])
            self.refused(NoSign, 3, [[0], [], [0, 1, 2, number]])

    def test_no_less_than_the_number_of_signs(self):
        for number in [3, 4, 100, 10 ** 30]:
            self.refused(NoSign, 3, [[number]])
            self.refused(NoSign, 3, [[0, 1], [2, number, 1]])
            self.refused(NoSign, 3, [[0], [], [0, 1, 2, number]])

    def test_numbers_too_long_to_be_written(self):
        self.refused(NoSign, 3, [[10 ** 6000]])
        self.refused(NoSign, 3, [[-10 ** 6000]])
        self.refused(NoSign, 3, [[10 ** 6000, 10 ** 6000]])

    def test_least_and_greatest_number_are_taken(self):
        self.taken(3, [[0], [2]])
        self.taken(1, [[0]])
        self.taken(3, [[2, 0, 1], [1, 0, 2]])

    def test_twice(self):
        self.refused(Twice, 3, [[1, 1]])
        self.refused(Twice, 3, [[0, 1, 2, 0]])
        self.refused(Twice, 3, [[0, 1, 2], [], [2, 1, 1]])
        self.refused(Twice, 3, [[2, 1, 1], [0, 1, 2], []])
        self.refused(Twice, 3, [[0, 0, 0]])
        self.refused(Twice, 1, [[0, 0]])

    def test_twice_where_the_count_never_comes_to_it(self):
        self.refused(Twice, 3, [[0], [0], [0], [0, 1, 1]])
        self.refused(NoSign, 3, [[0], [0], [0], [0, 1, 3]])

    def test_the_same_sign_on_different_ballots_is_not_twice(self):
        self.taken(3, [[1], [1], [1, 2], [2, 1]])

    def test_both_on_one_ballot(self):
        self.refused(NoSign, 3, [[0, 0, 3]])
        self.refused(NoSign, 3, [[3, 0, 0]])
        self.refused(NoSign, 3, [[0, -1, 0]])
        self.refused(NoSign, 3, [[3, 3]])
        self.refused(NoSign, 3, [[-1, -1]])

    def test_both_on_different_ballots(self):
        self.refused(NoSign, 3, [[0, 0], [3]])
        self.refused(NoSign, 3, [[3], [0, 0]])
        self.refused(NoSign, 3, [[1, 1], [0], [], [2, -1]])
        self.refused(NoSign, 3, [[2, -1], [0], [], [1, 1]])

    def test_no_signs(self):
        self.refused(NoSign, 0, [[0]])
        self.refused(NoSign, 0, [[], [-1]])
        self.refused(NoSign, 0, [[0, 0]])
        self.taken(0, [])
        self.taken(0, [[], []])


class RefuseNothing(unittest.TestCase):
    def test_first_of(self):
        self.assertEqual(unchanged(self, first_of, [-1, 7, 1], [0, 1]), 1)
        self.assertEqual(unchanged(self, first_of, [2, 2, 1, 1], [0, 1]), 1)
        self.assertIsNone(unchanged(self, first_of, [-1, -1, 900], [0, 1]))
        self.assertIsNone(unchanged(self, first_of, [-1], [0]))

    def test_votes(self):
        ballots = [[-1, 0], [5, 5], [1, 1], [1, 0, 1], [-2]]
        self.assertEqual(unchanged(self, votes, ballots, [1, 0]), [(0, 1), (1, 2)])
        self.assertEqual(unchanged(self, votes, ballots, []), [])


if __name__ == "__main__":
    unittest.main()
