"""What is drawn in the dark, against the words of the document followed draw by draw."""

import unittest
from fractions import Fraction
from itertools import combinations, product
from math import gcd

from calls import ask, average, begin, buy, chance, colour, lose, mend, surely, undress, until, wash, wear
from in_the_dark import draws_till, pairs_of, spread, told_as

SMALL = [list(socks) for colours in (1, 2, 3) for socks in product(range(4), repeat=colours)]
LARGE = [[8], [8, 8], [8, 8, 8], [7, 5, 3, 1, 0], [5, 5, 5, 5, 4], [1, 2, 3, 4, 5], [8, 1, 1, 1, 1], [6, 6, 6, 6],
         [8, 7, 6, 3], [1, 1, 1, 1, 1]]


def counts_of(drawn):
    return [drawn.count(which) for which in set(drawn)]


def draws(socks, size):
    """Each choice of so many single socks, told by their colours."""
    single = [which for which, count in enumerate(socks) for number in range(count)]
    return list(combinations(single, size))


class SmallDrawers(unittest.TestCase):
    def test_every_choice_of_socks(self):
        for socks in SMALL:
            total = sum(socks)
            pairs_drawn = [[pairs_of(counts_of(drawn)) for drawn in draws(socks, size)] for size in range(total + 1)]
            for size, found in enumerate(pairs_drawn):
                self.assertEqual(ask(begin(*socks), average(size))[1], told_as(Fraction(sum(found), len(found))))
                for pairs in range(6):
                    enough = len([number for number in found if number >= pairs])
                    self.assertEqual(ask(begin(*socks), chance(size, pairs))[1], told_as(Fraction(enough, len(found))))
            for pairs in range(6):
                sizes = [size for size, found in enumerate(pairs_drawn) if min(found) >= pairs]
                self.assertEqual(ask(begin(*socks), surely(pairs))[1], [min(sizes, default=-6)], (socks, pairs))

    def test_every_choice_with_two_of_a_colour(self):
        for socks in SMALL:
            for which in range(len(socks)):
                sizes = [size for size in range(sum(socks) + 1)
                         if all(drawn.count(which) >= 2 for drawn in draws(socks, size))]
                self.assertEqual(ask(begin(*socks), colour(which))[1], [min(sizes, default=-6)], (socks, which))

    def test_until(self):
        for socks in SMALL:
            for pairs in range(pairs_of(socks) + 1):
                expected = draws_till(tuple(socks), (0,) * len(socks), pairs)
                self.assertEqual(ask(begin(*socks), until(pairs))[1], told_as(expected), (socks, pairs))


class LargeDrawers(unittest.TestCase):
    def check(self, before, socks):
        """Asks all of a drawer with these socks in it, as it is after the calls before."""
        nothing = (0,) * len(socks)
        fewest = {}
        for size in range(sum(socks) + 1):
            chances = spread(tuple(socks), nothing, size)
            mean = sum(pairs * likely for pairs, likely in chances.items())
            self.assertEqual(ask(*before, average(size))[-1], told_as(mean), (socks, size))
            told = ask(*before, *[chance(size, pairs) for pairs in range(13)])[len(before):]
            expected = [sum(likely for found, likely in chances.items() if found >= pairs) for pairs in range(13)]
            self.assertEqual(told, [told_as(value) for value in expected], (socks, size))
            for pairs in range(min(chances) + 1):
                fewest.setdefault(pairs, size)
        for pairs in range(13):
            if pairs > pairs_of(socks):
                expected = [[-6], [-6]]
            else:
                expected = [[fewest[pairs]], told_as(draws_till(tuple(socks), nothing, pairs))]
            self.assertEqual(ask(*before, surely(pairs), until(pairs))[len(before):], expected, (socks, pairs))

    def test_as_it_began(self):
        for socks in LARGE:
            self.check([begin(*socks)], socks)

    def test_some_worn(self):
        self.check([begin(8, 8, 8), wear(1), wear(1), wear(2)], [8, 4, 6])
        self.check([begin(3, 5, 2), wear(0), wear(2)], [1, 5, 0])
        self.check([begin(2), wear(0)], [0])

    def test_some_in_the_wash_and_some_washed(self):
        self.check([begin(6, 5), wear(0), wear(1), undress(), wear(0)], [2, 3])
        self.check([begin(6, 5), wear(0), wear(1), undress(), wear(0), wash()], [4, 5])

    def test_some_lost(self):
        self.check([begin(6, 5), wear(0), undress(), wear(1), lose(0, 0), lose(1, 1), lose(2, 0)], [3, 3])
        self.check([begin(2, 2), lose(0, 0), lose(0, 0), lose(0, 1)], [0, 1])
        self.check([begin(4), wear(0), undress(), lose(2, 0), wash()], [3])

    def test_some_bought_and_mended(self):
        self.check([begin(0, 3, 2), wear(1), buy(0, 5), lose(0, 2)], [5, 1, 1])
        self.check([begin(0, 3, 2), wear(1), buy(0, 5), lose(0, 2), mend()], [6, 2, 2])
        self.check([begin(7, 7, 7), mend()], [8, 8, 8])


class Fractions(unittest.TestCase):
    def test_lowest_terms(self):
        for socks in LARGE:
            sizes = range(sum(socks) + 1)
            asked = [chance(size, pairs) for size in sizes for pairs in range(13)] + [average(size) for size in sizes]
            asked += [until(pairs) for pairs in range(pairs_of(socks) + 1)]
            for call in asked:
                told = ask(begin(*socks), call)[1]
                self.assertEqual(len(told), 2)
                self.assertGreater(told[1], 0)
                self.assertEqual(gcd(*told), 1, (socks, call))

    def test_nothing_is_0_by_1(self):
        told = ask(begin(2, 3), chance(1, 1), chance(3, 2), chance(5, 12), average(0), average(1), until(0))
        self.assertEqual(told[1:], [[0, 1]] * 6)
