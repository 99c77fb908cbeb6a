"""Calls written as the interface asks, and answers taken apart again."""

from nightsocks.drawer import answers


def begin(*socks):
    return [0, len(socks), *socks]


def surely(pairs):
    return [1, pairs]


def colour(number):
    return [2, number]


def chance(socks, pairs):
    return [3, socks, pairs]


def average(socks):
    return [4, socks]


def until(pairs):
    return [5, pairs]


def wear(number):
    return [6, number]


def undress():
    return [7]


def wash():
    return [8]


def lose(place, number):
    return [9, place, number]


def buy(number, n):
    return [10, number, n]


def odd():
    return [11]


def mend():
    return [12]


def look():
    return [13]


def ask(*calls):
    """The answers to these calls on one line, a list for each call."""
    told = answers([number for call in calls for number in call])
    apart = []
    at = 0
    while at < len(told):
        size = told[at]
        apart.append(told[at + 1:at + 1 + size])
        at += 1 + size
    return apart


def ask_last(*calls):
    return ask(*calls)[-1]
