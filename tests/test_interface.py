"""The interface: its names and arguments as they stand."""

import inspect
import unittest

from guildvote import ballots, counting, errors

ARGUMENTS = [
    (ballots.first_of, ["ballot", "standing"]),
    (ballots.votes, ["ballots", "standing"]),
    (counting.weakest, ["history"]),
    (counting.all_rounds, ["count", "ballots"]),
    (counting.leavers, ["count", "ballots"]),
    (counting.chosen, ["count", "ballots"]),
]


class Interface(unittest.TestCase):
    def test_arguments(self):
        for function, names in ARGUMENTS:
            with self.subTest(function=function.__name__):
                self.assertEqual(list(inspect.signature(function).parameters), names)

    def test_arguments_by_name(self):
        self.assertEqual(ballots.first_of(ballot=[1], standing=[1]), 1)
        self.assertEqual(ballots.votes(ballots=[[1]], standing=[1]), [(1, 1)])
        self.assertEqual(counting.weakest(history=[[(1, 1)]]), 1)
        self.assertEqual(counting.all_rounds(count=1, ballots=[]), [[(0, 0)]])
        self.assertEqual(counting.leavers(count=1, ballots=[]), [])
        self.assertEqual(counting.chosen(count=1, ballots=[]), 0)

    def test_errors_can_be_made_and_taken(self):
        for error in [errors.VoteError, errors.NoSign, errors.Twice]:
            with self.assertRaises(ValueError):
                raise error("words of its own")


if __name__ == "__main__":
    unittest.main()
