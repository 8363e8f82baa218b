"""Points 5 to 8: all rounds, the signs that leave, and the one that is chosen."""

import itertools
import unittest

from guildvote.ballots import first_of
from guildvote.counting import all_rounds, chosen, leavers
from plain_count import Numbers, elections, plain_count, unchanged


class Counting(unittest.TestCase):
    def counts(self, count, ballots, rounds, gone, one):
        self.assertEqual(unchanged(self, all_rounds, count, ballots), rounds)
        self.assertEqual(unchanged(self, leavers, count, ballots), gone)
        self.assertEqual(unchanged(self, chosen, count, ballots), one)


class Chosen(Counting):
    def test_more_than_half_in_the_first_round(self):
        self.counts(3, [[1], [1, 0], [0]], [[(0, 1), (1, 2), (2, 0)]], [], 1)
        self.counts(2, [[0]], [[(0, 1), (1, 0)]], [], 0)

    def test_no_round_behind_the_one_in_which_a_sign_is_chosen(self):
        ballots = [[0]] * 3 + [[1]] * 2 + [[2, 0]] * 2
        rounds = [[(0, 3), (1, 2), (2, 2)], [(0, 5), (1, 2)]]
        self.counts(3, ballots, rounds, [2], 0)

    def test_exactly_half_is_not_more_than_half(self):
        ballots = [[2], [2], [0], [1]]
        rounds = [[(0, 1), (1, 1), (2, 2)], [(0, 1), (2, 2)]]
        self.counts(3, ballots, rounds, [1], 2)

    def test_exactly_half_each(self):
        self.counts(2, [[0], [1]], [[(0, 1), (1, 1)], [(0, 1)]], [1], 0)
        self.counts(2, [[1, 0], [0, 1]], [[(0, 1), (1, 1)], [(0, 2)]], [1], 0)

    def test_half_of_the_ballots_that_are_not_spent(self):
        ballots = [[], [], [], [1], [1], [0]]
        self.counts(3, ballots, [[(0, 1), (1, 2), (2, 0)]], [], 1)

    def test_spent_ballots_leave_the_half(self):
        ballots = [[0], [0], [0], [1], [1], [2]]
        rounds = [[(0, 3), (1, 2), (2, 1)], [(0, 3), (1, 2)]]
        self.counts(3, ballots, rounds, [2], 0)

    def test_the_most_votes_are_not_enough(self):
        ballots = [[0]] * 4 + [[1, 2]] * 3 + [[2, 1]] * 2
        rounds = [[(0, 4), (1, 3), (2, 2)], [(0, 4), (1, 5)]]
        self.counts(3, ballots, rounds, [2], 1)

    def test_one_sign_alone(self):
        self.counts(1, [[0], []], [[(0, 1)]], [], 0)
        self.counts(1, [[]], [[(0, 0)]], [], 0)
        self.counts(1, [], [[(0, 0)]], [], 0)

    def test_no_signs(self):
        self.counts(0, [], [], [], None)
        self.counts(0, [[], [], []], [], [], None)

    def test_no_ballots(self):
        rounds = [[(0, 0), (1, 0), (2, 0)], [(0, 0), (1, 0)], [(0, 0)]]
        self.counts(3, [], rounds, [2, 1], 0)
        self.counts(3, [[], []], rounds, [2, 1], 0)

    def test_the_first_sign_is_told_as_nought(self):
        self.assertIs(chosen(2, [[0]]).__class__, int)
        self.assertIsNone(chosen(0, []))


class Leaving(Counting):
    def test_the_fewest_in_this_round(self):
        ballots = [[0]] * 2 + [[1, 2]] + [[2]] * 2
        rounds = [[(0, 2), (1, 1), (2, 2)], [(0, 2), (2, 3)]]
        self.counts(3, ballots, rounds, [1], 2)

    def test_the_round_just_ahead(self):
        ballots = [[0]] * 2 + [[1]] * 3 + [[2, 0]]
        rounds = [[(0, 2), (1, 3), (2, 1)], [(0, 3), (1, 3)], [(1, 3)]]
        self.counts(3, ballots, rounds, [2, 0], 1)

    def test_the_round_ahead_of_that(self):
        ballots = [[0]] * 3 + [[1]] * 4 + [[2]] * 2 + [[3, 0]]
        rounds = [
            [(0, 3), (1, 4), (2, 2), (3, 1)],
            [(0, 4), (1, 4), (2, 2)],
            [(0, 4), (1, 4)],
            [(1, 4)],
        ]
        self.counts(4, ballots, rounds, [3, 2, 0], 1)

    def test_the_same_in_all_rounds(self):
        ballots = [[0]] * 2 + [[1]] * 2 + [[2]]
        rounds = [[(0, 2), (1, 2), (2, 1)], [(0, 2), (1, 2)], [(0, 2)]]
        self.counts(3, ballots, rounds, [2, 1], 0)

    def test_a_ballot_goes_over_a_sign_that_left_earlier(self):
        ballots = [[3, 2, 0]] * 2 + [[2, 3, 1]] + [[0]] * 4 + [[1]] * 4
        rounds = [
            [(0, 4), (1, 4), (2, 1), (3, 2)],
            [(0, 4), (1, 4), (3, 3)],
            [(0, 6), (1, 5)],
        ]
        self.counts(4, ballots, rounds, [2, 3], 0)


class Kinds(unittest.TestCase):
    def test_lists_of_lists_of_tuples_of_whole_numbers(self):
        rounds = all_rounds(3, [[0], [1]])
        self.assertIs(rounds.__class__, list)
        self.assertEqual({tally.__class__ for tally in rounds}, {list})
        self.assertEqual({pair.__class__ for tally in rounds for pair in tally}, {tuple})
        self.assertEqual({part.__class__ for tally in rounds for pair in tally for part in pair}, {int})
        self.assertIs(leavers(3, []).__class__, list)
        self.assertEqual({sign.__class__ for sign in leavers(3, [])}, {int})

    def test_each_call_answers_lists_of_its_own(self):
        ballots = [[0], [1]]
        for tally in all_rounds(2, ballots):
            tally.clear()
        leavers(2, ballots).clear()
        self.assertEqual(all_rounds(2, ballots), [[(0, 1), (1, 1)], [(0, 1)]])
        self.assertEqual(leavers(2, ballots), [1])


class Over(Counting):
    """What holds of every count, on many of them."""

    def test_against_the_plain_count(self):
        for count, ballots in elections():
            self.counts(count, ballots, *plain_count(count, ballots))

    def test_all_small_elections(self):
        for count in range(4):
            kinds = [list(ballot) for length in range(count + 1)
                     for ballot in itertools.permutations(range(count), length)]
            for many in range(4):
                for ballots in itertools.combinations_with_replacement(kinds, many):
                    self.counts(count, list(ballots), *plain_count(count, ballots))

    def test_a_sign_is_chosen_wherever_there_are_any(self):
        for count, ballots in elections():
            one = chosen(count, ballots)
            if count == 0:
                self.assertIsNone(one)
            else:
                self.assertIn(one, range(count))

    def test_one_sign_leaves_behind_each_round_but_the_last(self):
        for count, ballots in elections():
            rounds, gone = all_rounds(count, ballots), leavers(count, ballots)
            standing = list(range(count))
            for number, tally in enumerate(rounds):
                self.assertEqual([sign for sign, _ in tally], standing)
                if number < len(gone):
                    standing.remove(gone[number])
            self.assertEqual(len(gone), max(len(rounds) - 1, 0))
            self.assertNotIn(chosen(count, ballots), gone)

    def test_the_chosen_one_has_more_than_half_or_stands_alone_and_none_did_before(self):
        for count, ballots in elections():
            rounds = all_rounds(count, ballots)
            for tally in rounds:
                over = [sign for sign, had in tally if 2 * had > sum(dict(tally).values())]
                if tally is rounds[-1]:
                    self.assertIn([chosen(count, ballots)], [over, [sign for sign, _ in tally]])
                else:
                    self.assertEqual(over, [])
                    self.assertGreater(len(tally), 1)

    def test_the_votes_of_a_round_are_the_ballots_not_spent(self):
        for count, ballots in elections():
            for tally in all_rounds(count, ballots):
                standing = [sign for sign, _ in tally]
                unspent = [ballot for ballot in ballots if first_of(ballot, standing) is not None]
                self.assertEqual(sum(had for _, had in tally), len(unspent))

    def test_votes_from_a_round_to_the_next(self):
        for count, ballots in elections():
            rounds = all_rounds(count, ballots)
            for tally, later in zip(rounds, rounds[1:]):
                for sign, had in later:
                    self.assertGreaterEqual(had, dict(tally)[sign])
                self.assertLessEqual(sum(dict(later).values()), sum(dict(tally).values()))

    def test_the_order_of_the_ballots_makes_no_difference(self):
        numbers = Numbers(3)
        for count, ballots in elections():
            told = all_rounds(count, ballots), leavers(count, ballots), chosen(count, ballots)
            self.counts(count, ballots[::-1], *told)
            self.counts(count, numbers.mixed(ballots), *told)


class Sizes(Counting):
    def test_a_hundred_signs_with_a_thousand_ballots(self):
        ballots = Numbers(8).ballots(100, 1000)
        self.counts(100, ballots, *plain_count(100, ballots))

    def test_somewhat_beyond(self):
        numbers = Numbers(9)
        ballots = [numbers.mixed(range(130)) for _ in range(1300)]
        rounds, gone = all_rounds(130, ballots), leavers(130, ballots)
        self.assertEqual(rounds[0], [(sign, [ballot[0] for ballot in ballots].count(sign)) for sign in range(130)])
        self.assertEqual({sum(had for _, had in tally) for tally in rounds}, {1300})
        self.assertEqual(len(gone), len(rounds) - 1)
        self.assertGreater(2 * dict(rounds[-1])[chosen(130, ballots)], 1300)

    def test_a_hundred_signs_and_no_ballots(self):
        rounds = [[(sign, 0) for sign in range(left)] for left in range(100, 0, -1)]
        self.counts(100, [], rounds, list(range(99, 0, -1)), 0)

    def test_many_ballots_and_no_signs(self):
        self.counts(0, [[]] * 1300, [], [], None)

    def test_a_hundred_signs_of_which_most_have_no_votes(self):
        ballots = [list(range(99, 0, -1)) for _ in range(500)] + [[0] for _ in range(500)]
        rounds = [[(0, 500)] + [(sign, 0) for sign in range(1, left)] + [(99, 500)] for left in range(99, 0, -1)]
        self.counts(100, ballots, rounds + [[(0, 500)]], list(range(98, 0, -1)) + [99], 0)


if __name__ == "__main__":
    unittest.main()
