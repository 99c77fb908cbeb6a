"""The words of the document on drawing in the dark, followed draw by draw."""

from fractions import Fraction
from functools import lru_cache


def pairs_of(counts):
    return sum(count // 2 for count in counts)


@lru_cache(None)
def spread(left, drawn, size):
    """How likely each number of pairs is, when size more socks are drawn one after another."""
    if size == 0:
        return {pairs_of(drawn): Fraction(1)}
    chances = {}
    for which, count in enumerate(left):
        if count > 0:
            then_left = left[:which] + (count - 1,) + left[which + 1:]
            then_drawn = drawn[:which] + (drawn[which] + 1,) + drawn[which + 1:]
            for pairs, likely in spread(then_left, then_drawn, size - 1).items():
                chances[pairs] = chances.get(pairs, 0) + likely * Fraction(count, sum(left))
    return chances


@lru_cache(None)
def draws_till(left, drawn, pairs):
    if pairs_of(drawn) >= pairs:
        return Fraction(0)
    total = Fraction(1)
    for which, count in enumerate(left):
        if count > 0:
            then_left = left[:which] + (count - 1,) + left[which + 1:]
            then_drawn = drawn[:which] + (drawn[which] + 1,) + drawn[which + 1:]
            total += Fraction(count, sum(left)) * draws_till(then_left, then_drawn, pairs)
    return total


def told_as(value):
    return [Fraction(value).numerator, Fraction(value).denominator]
