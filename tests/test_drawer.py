import unittest

from calls import (ask, ask_last, average, begin, buy, chance, colour, look, lose, mend, odd, surely, undress, until,
                   wash, wear)


class Begin(unittest.TestCase):
    """Promise 1."""

    def test_is_granted(self):
        for socks in ([0], [1], [8], [2, 3], [0, 0, 0, 0, 0], [8, 8, 8], [8, 8, 8, 0, 0], [5, 5, 5, 5, 4]):
            self.assertEqual(ask(begin(*socks)), [[0]], socks)

    def test_colours_are_not_one_to_five(self):
        for socks in ([], [0] * 6, [1] * 6, [1] * 7, [0] * 8, [1] * 8):
            self.assertEqual(ask(begin(*socks)), [[-1]], socks)

    def test_more_than_eight_of_a_colour(self):
        for socks in ([9], [20], [0, 9], [1, 1, 1, 1, 9], [9, 8, 7]):
            self.assertEqual(ask(begin(*socks)), [[-1]], socks)

    def test_more_than_24_in_all(self):
        for socks in ([5, 5, 5, 5, 5], [8, 8, 8, 1], [8, 8, 8, 8], [8, 8, 8, 8, 8]):
            self.assertEqual(ask(begin(*socks)), [[-1]], socks)

    def test_several_refusals_are_one_number(self):
        self.assertEqual(ask(begin(20, 20, 20, 20, 20, 20, 20, 20)), [[-1]])

    def test_instead_of_what_there_was(self):
        told = ask(begin(4, 4), wear(0), begin(2, 1, 3), average(6), average(7), colour(0), colour(2), colour(3))
        self.assertEqual(told[3:], [[2, 1], [-1], [6], [5], [-2]])

    def test_fewer_colours_than_before(self):
        self.assertEqual(ask(begin(4, 4, 4), begin(2), wear(1), wear(0))[2:], [[-2], [0]])

    def test_a_refused_one_leaves_the_old_drawer(self):
        for refused in (begin(), begin(9), begin(1, 1, 1, 1, 1, 1), begin(8, 8, 8, 1)):
            told = ask(begin(6, 3), wear(0), refused, wear(0), surely(1), wear(2))
            self.assertEqual(told, [[0], [4], [-1], [2], [3], [-2]], refused)

    def test_a_refused_one_makes_no_drawer(self):
        for refused in (begin(), begin(9), begin(1, 1, 1, 1, 1, 1), begin(8, 8, 8, 1)):
            self.assertEqual(ask(refused, surely(0), begin(2), surely(0)), [[-1], [-9], [0], [0]], refused)


class NoDrawer(unittest.TestCase):
    def test_each_call_but_begin(self):
        calls = [surely(1), colour(0), chance(2, 1), average(2), until(1), wear(0), undress(), wash(), lose(0, 0),
                 buy(0, 1), odd(), mend(), look()]
        for call in calls:
            self.assertEqual(ask(call), [[-9]], call)
        self.assertEqual(ask(*calls), [[-9]] * len(calls))

    def test_it_counts_before_all_other_refusals(self):
        calls = [surely(13), surely(20), colour(9), chance(30, 20), average(30), until(13), until(20), wear(9),
                 lose(9, 9), buy(9, 0)]
        self.assertEqual(ask(*calls), [[-9]] * len(calls))

    def test_what_needs_no_sock(self):
        self.assertEqual(ask(surely(0), chance(0, 0), average(0), until(0)), [[-9]] * 4)


class Surely(unittest.TestCase):
    """Promise 2."""

    def test_told_by_hand(self):
        cases = [([2, 2], 1, 3), ([2, 2], 2, 4), ([1, 1, 1, 1, 2], 1, 6), ([5, 5, 5, 5, 4], 1, 6),
                 ([8], 1, 2), ([8], 4, 8), ([7, 1], 3, 7), ([8, 8, 8], 1, 4), ([8, 8, 8], 9, 20),
                 ([8, 8, 8], 10, 22), ([8, 8, 8], 11, 23), ([0, 3, 0], 1, 2), ([3, 3], 2, 5)]
        for socks, pairs, fewest in cases:
            self.assertEqual(ask_last(begin(*socks), surely(pairs)), [fewest], (socks, pairs))

    def test_no_pairs(self):
        self.assertEqual(ask_last(begin(0), surely(0)), [0])
        self.assertEqual(ask_last(begin(8, 8, 8), surely(0)), [0])

    def test_12_pairs_and_13(self):
        self.assertEqual(ask(begin(8, 8, 8), surely(12), surely(13), surely(20))[1:], [[24], [-1], [-1]])

    def test_all_in_the_drawer_are_not(self):
        for socks, pairs in (([0], 1), ([1, 1, 1, 1, 1], 1), ([3, 3], 3), ([8, 8, 7], 12), ([2], 12)):
            self.assertEqual(ask_last(begin(*socks), surely(pairs)), [-6], (socks, pairs))

    def test_both_are_due(self):
        self.assertEqual(ask_last(begin(1), surely(13)), [-1])

    def test_worn_ones_do_not_count(self):
        told = ask(begin(4, 3), surely(3), wear(0), surely(3), surely(2), surely(1), wear(0), surely(1), surely(2))
        self.assertEqual(told, [[0], [7], [2], [-6], [5], [3], [0], [2], [-6]])


class Colour(unittest.TestCase):
    """Promise 3."""

    def test_told_by_hand(self):
        told = ask(begin(2, 3, 0, 1, 8), colour(0), colour(1), colour(4))
        self.assertEqual(told[1:], [[14], [13], [8]])
        self.assertEqual(ask_last(begin(2), colour(0)), [2])
        self.assertEqual(ask_last(begin(8, 8, 8), colour(2)), [18])

    def test_no_such_colour(self):
        self.assertEqual(ask(begin(2), colour(1), colour(9))[1:], [[-2], [-2]])
        self.assertEqual(ask(begin(2, 2, 2, 2, 2), colour(4), colour(5))[1:], [[10], [-2]])

    def test_two_are_not_in_the_drawer(self):
        self.assertEqual(ask(begin(0, 1, 2), colour(0), colour(1), colour(2))[1:], [[-6], [-6], [3]])

    def test_worn_ones_do_not_count(self):
        told = ask(begin(5, 2), wear(0), colour(0), colour(1), wear(0), colour(0), colour(1))
        self.assertEqual(told[2:], [[4], [5], [1], [-6], [3]])


class Chance(unittest.TestCase):
    """Promise 4."""

    def test_told_by_hand(self):
        cases = [([2, 2], 2, 1, [1, 3]), ([2, 2], 3, 1, [1, 1]), ([2, 2], 3, 2, [0, 1]), ([2, 2], 4, 2, [1, 1]),
                 ([4, 4], 2, 1, [3, 7]), ([4, 4], 4, 2, [19, 35]), ([3, 1], 2, 1, [1, 2]), ([8], 2, 1, [1, 1])]
        for socks, drawn, pairs, told in cases:
            self.assertEqual(ask_last(begin(*socks), chance(drawn, pairs)), told, (socks, drawn, pairs))

    def test_no_socks_and_no_pairs(self):
        self.assertEqual(ask(begin(0), chance(0, 0), chance(0, 1), chance(0, 12))[1:], [[1, 1], [0, 1], [0, 1]])
        self.assertEqual(ask(begin(3, 3), chance(0, 0), chance(5, 0), chance(1, 1))[1:], [[1, 1], [1, 1], [0, 1]])

    def test_12_pairs_and_13(self):
        told = ask(begin(8, 8, 8), chance(24, 12), chance(23, 12), chance(24, 13), chance(0, 13), chance(24, 20))
        self.assertEqual(told[1:], [[1, 1], [0, 1], [-1], [-1], [-1]])

    def test_more_pairs_than_there_are_is_no_refusal(self):
        self.assertEqual(ask_last(begin(2), chance(2, 12)), [0, 1])

    def test_all_in_the_drawer_and_one_more(self):
        told = ask(begin(3, 2), chance(5, 2), chance(6, 2), chance(30, 0), chance(6, 13))
        self.assertEqual(told[1:], [[1, 1], [-1], [-1], [-1]])
        self.assertEqual(ask(begin(8, 8, 8), chance(24, 1), chance(25, 1))[1:], [[1, 1], [-1]])

    def test_worn_ones_do_not_count(self):
        told = ask(begin(4, 2), wear(0), chance(4, 2), chance(5, 2), chance(2, 1))
        self.assertEqual(told[2:], [[1, 1], [-1], [1, 3]])


class Average(unittest.TestCase):
    """Promise 5."""

    def test_told_by_hand(self):
        cases = [([2, 2], 2, [1, 3]), ([2, 2], 3, [1, 1]), ([2, 2], 4, [2, 1]), ([4, 4], 4, [54, 35]),
                 ([3, 1], 2, [1, 2]), ([1, 1, 1, 1, 1], 5, [0, 1]), ([8, 8, 8], 24, [12, 1]), ([8], 5, [2, 1])]
        for socks, drawn, told in cases:
            self.assertEqual(ask_last(begin(*socks), average(drawn)), told, (socks, drawn))

    def test_no_socks(self):
        self.assertEqual(ask_last(begin(0), average(0)), [0, 1])
        self.assertEqual(ask(begin(8, 8, 8), average(0), average(1))[1:], [[0, 1], [0, 1]])

    def test_all_in_the_drawer_and_one_more(self):
        self.assertEqual(ask(begin(3, 2), average(5), average(6), average(30))[1:], [[2, 1], [-1], [-1]])
        self.assertEqual(ask(begin(0), average(0), average(1))[1:], [[0, 1], [-1]])

    def test_worn_ones_do_not_count(self):
        self.assertEqual(ask(begin(4, 2), wear(0), average(4), average(5), average(2))[2:], [[2, 1], [-1], [1, 3]])


class Until(unittest.TestCase):
    """Promise 6."""

    def test_told_by_hand(self):
        cases = [([2, 2], 1, [8, 3]), ([2, 2], 2, [4, 1]), ([2], 1, [2, 1]), ([3, 1], 1, [5, 2]),
                 ([8], 3, [6, 1]), ([2, 1], 1, [8, 3])]
        for socks, pairs, told in cases:
            self.assertEqual(ask_last(begin(*socks), until(pairs)), told, (socks, pairs))

    def test_no_pairs(self):
        self.assertEqual(ask_last(begin(0), until(0)), [0, 1])
        self.assertEqual(ask_last(begin(8, 8, 8), until(0)), [0, 1])

    def test_12_pairs_and_13(self):
        self.assertEqual(ask(begin(8, 8, 8), until(12), until(13), until(20))[1:], [[24, 1], [-1], [-1]])

    def test_all_in_the_drawer_are_not(self):
        for socks, pairs in (([0], 1), ([1, 1, 1, 1, 1], 1), ([3, 3], 3), ([8, 8, 7], 12)):
            self.assertEqual(ask_last(begin(*socks), until(pairs)), [-6], (socks, pairs))

    def test_both_are_due(self):
        self.assertEqual(ask_last(begin(1), until(13)), [-1])

    def test_worn_ones_do_not_count(self):
        self.assertEqual(ask(begin(4, 2), wear(0), until(1), until(2), until(3))[2:], [[8, 3], [4, 1], [-6]])


class Wear(unittest.TestCase):
    """Promise 7."""

    def test_tells_what_is_left(self):
        told = ask(begin(8, 3), wear(0), wear(0), wear(1), wear(1), wear(0), wear(0), wear(0), average(1), average(2))
        self.assertEqual(told[1:], [[6], [4], [1], [-6], [2], [0], [-6], [0, 1], [-1]])

    def test_no_such_colour(self):
        self.assertEqual(ask(begin(2), wear(1), wear(9))[1:], [[-2], [-2]])
        self.assertEqual(ask(begin(2, 2, 2, 2, 2), wear(5), wear(4))[1:], [[-2], [0]])

    def test_two_are_not_there(self):
        self.assertEqual(ask(begin(0, 1, 2, 3), wear(0), wear(1), wear(2), wear(3))[1:], [[-6], [-6], [0], [1]])

    def test_the_pair_is_worn(self):
        told = ask(begin(5, 2), wear(0), look(), wear(1), look(), wear(0), look(), wear(0), look(), wear(2), look())
        self.assertEqual([row[2:4] for row in told[2::2]], [[2, 0], [2, 2], [4, 2], [4, 2], [4, 2]])
        self.assertEqual(told[-1], [1, 0, 4, 2, 0, 0, 0, 0, 5, 2])


class NothingChanges(unittest.TestCase):
    def test_after_a_refusal(self):
        asked = [surely(1), colour(0), chance(3, 1), average(5), average(6), until(2), wear(0), wear(1)]
        told = ask(begin(4, 3), wear(0), *asked)[2:]
        for refused in (begin(), begin(9), surely(13), surely(7), colour(2), colour(9), chance(6, 1), chance(1, 13),
                        average(6), until(13), until(7), wear(2), wear(9)):
            answers = ask(begin(4, 3), wear(0), refused, *asked)
            self.assertEqual(len(answers[2]), 1, refused)
            self.assertLess(answers[2][0], 0, refused)
            self.assertEqual(answers[3:], told, refused)
        self.assertEqual(ask(begin(1, 2), wear(0), wear(1), wear(1), average(1), average(2))[1:],
                         [[-6], [0], [-6], [0, 1], [-1]])

    def test_where_it_is_only_asked(self):
        asked = [surely(1), colour(1), chance(3, 1), average(4), until(2)]
        told = ask(begin(4, 3, 2), *asked, *asked, average(9), average(10))
        self.assertEqual(told[1:6], told[6:11])
        self.assertEqual(told[11:], [[4, 1], [-1]])
