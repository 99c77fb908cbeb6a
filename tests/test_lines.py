"""Whole lines of calls, against a drawer that is kept sock by sock."""

import unittest
from itertools import product
from random import Random

from calls import ask, average, begin, buy, chance, colour, look, lose, mend, odd, surely, undress, until, wash, wear
from model import answers_of_model

STEPS = [wear(0), wear(1), undress(), wash(), lose(0, 0), lose(1, 0), lose(2, 1), buy(0, 1), buy(1, 3), mend(),
         begin(2, 5)]
ASKED = [surely(1), surely(3), colour(0), colour(1), chance(3, 1), average(4), until(1), until(3), odd(), look()]


class ShortLines(unittest.TestCase):
    def test_every_order_of_three_steps(self):
        for socks in ([3, 4], [7, 2], [8, 8, 8], [7, 7, 7, 1]):
            for steps in product(STEPS, repeat=3):
                line = [begin(*socks), *steps, odd(), look()]
                self.assertEqual(ask(*line), answers_of_model(line), line)

    def test_what_is_asked_behind_every_two_steps(self):
        for socks in ([3, 4], [7, 2]):
            for steps in product(STEPS, repeat=2):
                line = [begin(*socks), wear(0), undress(), wear(1), *steps, *ASKED]
                self.assertEqual(ask(*line), answers_of_model(line), line)


def some_begin(dice):
    colours = dice.choice([0, 1, 1, 2, 2, 3, 3, 4, 5, 5, 6, 8])
    return begin(*[dice.choice([0, 1, 2, 3, 4, 5, 6, 7, 8, 8, 9, 20]) if dice.random() < 0.2 else dice.randint(0, 4)
                   for number in range(colours)])


def some_colour(dice):
    return dice.choice([0, 0, 0, 1, 1, 2, 2, 3, 4, 5, 9])


def some_step(dice):
    which = some_colour(dice)
    steps = [wear(which), wear(which), wear(which), undress(), wash(), lose(dice.choice([0, 1, 2, 2, 3, 9]), which),
             lose(dice.choice([0, 1, 2]), which), buy(which, dice.choice([0, 1, 1, 2, 3, 8, 20])), mend(), odd(),
             look()]
    return dice.choice(steps)


def some_question(dice):
    pairs = dice.choice([0, 1, 1, 2, 3, 4, 6, 12, 13, 20])
    socks = dice.choice([0, 1, 2, 3, 4, 6, 8, 10, 24, 25, 30])
    return dice.choice([surely(pairs), colour(some_colour(dice)), chance(socks, pairs), average(socks), until(pairs)])


def some_line(dice, questions):
    line = [some_begin(dice)]
    while len(line) < 60:
        number = dice.random()
        if number < 0.03:
            line.append(some_begin(dice))
        elif number < 0.03 + questions:
            line.append(some_question(dice))
        else:
            line.append(some_step(dice))
    return line


class LongLines(unittest.TestCase):
    def check(self, seed, lines, questions):
        dice = Random(seed)
        met = set()
        for number in range(lines):
            line = some_line(dice, questions)
            told = ask(*line)
            self.assertEqual(told, answers_of_model(line), line)
            met.update((call[0], min(answer[0], 0)) for call, answer in zip(line, told))
        return met

    def test_days(self):
        met = self.check(1, 1500, 0)
        expected = {(0, 0), (0, -1), (6, 0), (6, -2), (6, -6), (7, 0), (7, -9), (8, 0), (8, -9), (9, 0), (9, -1),
                    (9, -2), (9, -6), (10, 0), (10, -1), (10, -2), (11, 0), (12, 0), (12, -1), (13, 0)}
        self.assertEqual(expected - met, set())

    def test_days_and_nights(self):
        met = self.check(2, 120, 0.3)
        expected = {(1, 0), (1, -1), (1, -6), (2, 0), (2, -2), (2, -6), (3, 0), (3, -1), (4, 0), (4, -1), (5, 0),
                    (5, -1), (5, -6)}
        self.assertEqual(expected - met, set())
