import unittest

from calls import (ask, ask_last, average, begin, buy, chance, colour, look, lose, mend, odd, surely, undress, until,
                   wash, wear)

# Of the colours 0 and 1 some are everywhere; of colour 2 there are none.
DAY = [begin(6, 5, 0), wear(0), wear(1), undress(), wear(0), lose(2, 1), lose(1, 0), buy(0, 1), lose(0, 0), wear(1),
       mend(), buy(1, 1), lose(0, 0)]
DAY_LOOK = [2, 2, 0, 1, 2, 0, 2, 1, 0, 3, 1, 0, 8, 6, 0]


class Undress(unittest.TestCase):
    """Promise 8."""

    def test_all_that_is_worn(self):
        told = ask(begin(4, 3, 2), wear(0), wear(1), undress(), look())
        self.assertEqual(told[3:], [[4], [2, 1, 2, 0, 0, 0, 2, 2, 0, 0, 0, 0, 4, 3, 2]])

    def test_nothing_is_worn(self):
        self.assertEqual(ask(begin(4, 3), undress(), look())[1:], [[0], [4, 3, 0, 0, 0, 0, 0, 0, 4, 3]])
        self.assertEqual(ask(begin(4), wear(0), undress(), undress(), look())[3:], [[0], [2, 0, 2, 0, 4]])

    def test_comes_to_what_is_in_the_wash(self):
        told = ask(begin(6, 2), wear(0), undress(), wear(0), wear(1), undress(), look())
        self.assertEqual(told[2:], [[2], [2], [0], [4], [2, 0, 0, 0, 4, 2, 0, 0, 6, 2]])

    def test_a_single_sock(self):
        self.assertEqual(ask(begin(4), wear(0), lose(1, 0), undress(), look())[3:], [[1], [2, 0, 1, 1, 4]])

    def test_socks_not_pairs_are_counted(self):
        self.assertEqual(ask_last(begin(8, 8, 8), *[wear(number % 3) for number in range(12)], undress()), [24])


class Wash(unittest.TestCase):
    """Promise 9."""

    def test_all_that_is_in_the_wash(self):
        told = ask(begin(4, 3), wear(0), wear(1), undress(), wash(), look())
        self.assertEqual(told[4:], [[4], [4, 3, 0, 0, 0, 0, 0, 0, 4, 3]])

    def test_nothing_is_in_the_wash(self):
        self.assertEqual(ask(begin(4), wash(), look())[1:], [[0], [4, 0, 0, 0, 4]])
        self.assertEqual(ask(begin(2), wear(0), undress(), wash(), wash(), look())[3:], [[2], [0], [2, 0, 0, 0, 2]])

    def test_what_is_worn_stays_worn(self):
        self.assertEqual(ask(begin(6), wear(0), wash(), look())[2:], [[0], [4, 2, 0, 0, 6]])
        told = ask(begin(6, 2), wear(0), undress(), wear(1), wash(), look())
        self.assertEqual(told[4:], [[2], [6, 0, 0, 2, 0, 0, 0, 0, 6, 2]])

    def test_a_single_sock(self):
        told = ask(begin(2), wear(0), undress(), lose(2, 0), wash(), wear(0), look())
        self.assertEqual(told[4:], [[1], [-6], [1, 0, 0, 1, 2]])

    def test_what_is_washed_is_worn_again(self):
        told = ask(begin(2), wear(0), wear(0), undress(), wear(0), wash(), wear(0), undress(), wash())
        self.assertEqual(told[1:], [[0], [-6], [2], [-6], [2], [0], [2], [2]])


class Lose(unittest.TestCase):
    """Promise 10."""

    def test_out_of_the_drawer(self):
        told = ask(begin(3, 2), lose(0, 0), look(), lose(0, 0), lose(0, 0), lose(0, 0), look())
        self.assertEqual(told[1:], [[2], [2, 2, 0, 0, 0, 0, 1, 0, 3, 2], [1], [0], [-6],
                                    [0, 2, 0, 0, 0, 0, 3, 0, 3, 2]])

    def test_of_what_is_worn(self):
        told = ask(begin(6, 4), lose(1, 1), wear(1), lose(1, 1), look(), lose(1, 1), lose(1, 1), lose(1, 0), look())
        self.assertEqual(told[1:], [[-6], [2], [1], [6, 2, 0, 1, 0, 0, 0, 1, 6, 4], [0], [-6], [-6],
                                    [6, 2, 0, 0, 0, 0, 0, 2, 6, 4]])

    def test_out_of_the_wash(self):
        told = ask(begin(6, 4), wear(1), lose(2, 1), undress(), lose(2, 1), look(), lose(2, 1), lose(2, 1),
                   lose(2, 0), look())
        self.assertEqual(told[2:], [[-6], [2], [1], [6, 2, 0, 0, 0, 1, 0, 1, 6, 4], [0], [-6], [-6],
                                    [6, 2, 0, 0, 0, 0, 0, 2, 6, 4]])

    def test_how_many_are_there_is_told_of_that_place_alone(self):
        told = ask(begin(7), wear(0), undress(), wear(0), lose(0, 0), lose(1, 0), lose(2, 0), look())
        self.assertEqual(told[4:], [[2], [1], [1], [2, 1, 1, 3, 7]])

    def test_no_such_place(self):
        told = ask(*DAY, *[lose(place, 0) for place in range(3, 10)], look())[len(DAY):]
        self.assertEqual(told, [[-1]] * 7 + [DAY_LOOK])

    def test_lost_ones_are_not_lost_again(self):
        self.assertEqual(ask(begin(1), lose(0, 0), lose(0, 0), lose(3, 0), look())[1:],
                         [[0], [-6], [-1], [0, 0, 0, 1, 1]])

    def test_no_such_colour(self):
        told = ask(begin(2, 2), *[lose(place, number) for place in range(3) for number in range(2, 10)], look())
        self.assertEqual(told[1:], [[-2]] * 24 + [[2, 2, 0, 0, 0, 0, 0, 0, 2, 2]])
        self.assertEqual(ask(begin(1, 1, 1, 1, 1), lose(0, 5), lose(0, 4))[1:], [[-2], [0]])

    def test_several_are_due(self):
        self.assertEqual(ask(begin(0, 2), lose(3, 2), lose(9, 9), lose(3, 0), lose(1, 2), lose(2, 9))[1:],
                         [[-1], [-1], [-1], [-2], [-2]])

    def test_place_comes_ahead_of_colour(self):
        told = ask(begin(0, 0, 3), lose(2, 0), lose(0, 2), look())
        self.assertEqual(told[1:], [[-6], [2], [0, 0, 2, 0, 0, 0, 0, 0, 0, 0, 0, 1, 0, 0, 3]])

    def test_a_colour_without_socks_is_there(self):
        self.assertEqual(ask(begin(0), lose(0, 0), lose(1, 0), lose(2, 0))[1:], [[-6], [-6], [-6]])


class Buy(unittest.TestCase):
    """Promise 11."""

    def test_they_come_into_the_drawer(self):
        told = ask(begin(2, 3), buy(1, 1), buy(0, 4), look())
        self.assertEqual(told[1:], [[4], [6], [6, 4, 0, 0, 0, 0, 0, 0, 6, 4]])

    def test_how_many_is_told_of_the_drawer_alone(self):
        told = ask(begin(5), wear(0), undress(), wear(0), buy(0, 2), look())
        self.assertEqual(told[4:], [[3], [3, 2, 2, 0, 7]])

    def test_none(self):
        self.assertEqual(ask(begin(2), buy(0, 0), look())[1:], [[-1], [2, 0, 0, 0, 2]])

    def test_8_and_9_of_a_colour(self):
        self.assertEqual(ask(begin(0), buy(0, 9), buy(0, 20), buy(0, 8), buy(0, 1), look())[1:],
                         [[-1], [-1], [8], [-1], [8, 0, 0, 0, 8]])
        self.assertEqual(ask(begin(1, 5), buy(1, 4), buy(1, 3), buy(1, 1), buy(0, 8), buy(0, 7))[1:],
                         [[-1], [8], [-1], [-1], [8]])

    def test_8_and_9_of_a_colour_in_all_places(self):
        before = [begin(6), wear(0), undress(), wear(0)]
        self.assertEqual(ask(*before, buy(0, 3), buy(0, 2), buy(0, 1), look())[4:], [[-1], [4], [-1], [4, 2, 2, 0, 8]])

    def test_8_and_9_of_a_colour_with_some_lost(self):
        before = [begin(8), wear(0), undress(), wear(0), lose(0, 0), lose(1, 0), lose(2, 0)]
        self.assertEqual(ask(*before, buy(0, 4), buy(0, 3), buy(0, 1), look())[7:],
                         [[-1], [6], [-1], [6, 1, 1, 3, 11]])

    def test_24_and_25_in_all(self):
        self.assertEqual(ask(begin(8, 8, 6, 0), buy(3, 3), buy(3, 2), buy(3, 1), buy(2, 1), look())[1:],
                         [[-1], [2], [-1], [-1], [8, 8, 6, 2] + [0] * 12 + [8, 8, 6, 2]])
        self.assertEqual(ask(begin(8, 8, 7, 0), buy(2, 1), buy(3, 1))[1:], [[8], [-1]])

    def test_24_and_25_in_all_places(self):
        before = [begin(6, 6, 6, 4), wear(0), wear(1), undress(), wear(2), wear(3)]
        self.assertEqual(ask(*before, buy(3, 3), buy(3, 2), buy(0, 1), look())[6:],
                         [[-1], [4], [-1], [4, 4, 4, 4, 0, 0, 2, 2, 2, 2, 0, 0, 0, 0, 0, 0, 6, 6, 6, 6]])

    def test_24_and_25_in_all_with_some_lost(self):
        before = [begin(6, 6, 6, 6), wear(0), undress(), wear(1), lose(0, 2), lose(1, 1), lose(2, 0)]
        self.assertEqual(ask(*before, buy(3, 4), buy(3, 3), buy(3, 2), buy(2, 1), buy(2, 1), look())[7:],
                         [[-1], [-1], [8], [6], [-1],
                          [4, 4, 6, 8, 0, 1, 0, 0, 1, 0, 0, 0, 1, 1, 1, 0, 6, 6, 7, 8]])

    def test_no_such_colour(self):
        self.assertEqual(ask(begin(2), buy(1, 1), buy(9, 1), look())[1:], [[-2], [-2], [2, 0, 0, 0, 2]])
        self.assertEqual(ask(begin(1, 1, 1, 1, 1), buy(5, 1), buy(4, 1))[1:], [[-2], [2]])

    def test_both_are_due(self):
        self.assertEqual(ask(begin(8, 8, 8), buy(3, 0), buy(3, 1), buy(9, 20), buy(2, 0), buy(2, 1))[1:],
                         [[-2], [-2], [-2], [-1], [-1]])

    def test_colour_comes_ahead_of_n(self):
        self.assertEqual(ask(begin(0, 0, 0), buy(2, 1), look())[1:], [[1], [0, 0, 1] + [0] * 9 + [0, 0, 1]])

    def test_a_colour_without_socks_is_bought(self):
        self.assertEqual(ask(begin(0, 1), buy(0, 2), wear(0), lose(0, 1), buy(1, 1))[1:], [[2], [0], [0], [1]])


class Odd(unittest.TestCase):
    """Promise 12."""

    def test_rising(self):
        self.assertEqual(ask_last(begin(2, 3, 4, 7, 1), odd()), [3, 1, 3, 4])

    def test_none_and_all(self):
        self.assertEqual(ask_last(begin(2, 0, 4, 8, 6), odd()), [0])
        self.assertEqual(ask_last(begin(0), odd()), [0])
        self.assertEqual(ask_last(begin(1, 3, 5, 7, 1), odd()), [5, 0, 1, 2, 3, 4])
        self.assertEqual(ask_last(begin(1), odd()), [1, 0])

    def test_all_places_together(self):
        self.assertEqual(ask(begin(5, 4), odd(), wear(0), odd(), undress(), odd(), wear(0), odd(), wash(), odd())[1::2],
                         [[1, 0]] * 5)
        told = ask(begin(6, 6), wear(0), undress(), wear(0), lose(1, 0), lose(2, 0), odd(), lose(0, 0), odd())
        self.assertEqual(told[6:], [[0], [1], [1, 0]])

    def test_lost_ones_do_not_count(self):
        told = ask(begin(4, 4, 4), lose(0, 2), odd(), wear(0), lose(1, 0), odd(), wear(1), undress(), lose(2, 1), odd(),
                   lose(0, 2), odd())
        self.assertEqual([told[at] for at in (2, 5, 9, 11)], [[1, 2], [2, 0, 2], [3, 0, 1, 2], [2, 0, 1]])

    def test_bought_ones_count(self):
        self.assertEqual(ask(begin(2, 3), buy(0, 1), odd(), buy(1, 3), odd())[2::2], [[2, 0, 1], [1, 0]])


class Mend(unittest.TestCase):
    """Promise 13."""

    def test_one_of_each_odd_colour(self):
        told = ask(begin(2, 3, 4, 7, 1), odd(), mend(), odd(), look())
        self.assertEqual(told[2:], [[3], [0], [2, 4, 4, 8, 2] + [0] * 15 + [2, 4, 4, 8, 2]])

    def test_no_odd_colour(self):
        self.assertEqual(ask(begin(2, 0), mend(), look())[1:], [[0], [2, 0, 0, 0, 0, 0, 0, 0, 2, 0]])
        self.assertEqual(ask(begin(0), mend())[1:], [[0]])
        self.assertEqual(ask(begin(1, 1), mend(), mend())[1:], [[2], [0]])

    def test_all_are_odd(self):
        self.assertEqual(ask(begin(1, 3, 5, 7, 1), mend(), look())[1:],
                         [[5], [2, 4, 6, 8, 2] + [0] * 15 + [2, 4, 6, 8, 2]])

    def test_just_fits(self):
        self.assertEqual(ask(begin(7, 7, 7), mend(), mend(), look())[1:], [[3], [0], [8, 8, 8] + [0] * 9 + [8, 8, 8]])
        self.assertEqual(ask(begin(8, 8, 6, 1), mend(), odd())[1:], [[1], [0]])
        self.assertEqual(ask(begin(8, 8, 8), mend())[1:], [[0]])

    def test_does_not_fit(self):
        for socks in ([7, 7, 7, 1], [8, 8, 7, 1], [5, 5, 5, 5, 3], [7, 7, 8, 2], [8, 7, 7, 1], [5, 5, 5, 5, 4]):
            told = ask(begin(*socks), mend(), look())
            self.assertEqual(told[1:], [[-1], socks + [0] * 3 * len(socks) + socks], socks)

    def test_they_come_into_the_drawer(self):
        told = ask(begin(3, 5), wear(0), wear(1), undress(), wear(1), mend(), look())
        self.assertEqual(told[5:], [[2], [2, 2, 0, 2, 2, 2, 0, 0, 4, 6]])

    def test_what_is_worn_and_in_the_wash_takes_room(self):
        before = [begin(7, 7, 7, 1), wear(0), wear(1), wear(2), undress(), wear(0), wear(1), wear(2)]
        self.assertEqual(ask(*before, mend(), look())[8:],
                         [[-1], [3, 3, 3, 1, 2, 2, 2, 0, 2, 2, 2, 0, 0, 0, 0, 0, 7, 7, 7, 1]])
        told = ask(*before, lose(0, 3), mend(), look())
        self.assertEqual(told[9:], [[3], [4, 4, 4, 0, 2, 2, 2, 0, 2, 2, 2, 0, 0, 0, 0, 1, 8, 8, 8, 1]])

    def test_lost_ones_take_none(self):
        told = ask(begin(7, 7, 8, 2), mend(), lose(0, 2), mend(), lose(0, 2), mend(), look())
        self.assertEqual(told[2:], [[7], [-1], [6], [2], [8, 8, 6, 2] + [0] * 8 + [0, 0, 2, 0, 8, 8, 8, 2]])

    def test_what_was_lost_is_made_up_for(self):
        told = ask(begin(8), wear(0), lose(1, 0), mend(), wear(0), undress(), lose(2, 0), mend(), look())
        self.assertEqual(told[1:], [[6], [1], [1], [5], [3], [2], [1], [6, 0, 2, 2, 10]])


class Look(unittest.TestCase):
    """Promise 14."""

    def test_behind_begin(self):
        self.assertEqual(ask_last(begin(0), look()), [0] * 5)
        self.assertEqual(ask_last(begin(1, 2, 3, 4, 5), look()), [1, 2, 3, 4, 5] + [0] * 15 + [1, 2, 3, 4, 5])

    def test_row_by_row(self):
        told = ask(begin(8, 6, 4), wear(0), wear(0), undress(), wear(1), lose(0, 2), lose(0, 2), lose(0, 2), look())
        self.assertEqual(told[-1], [4, 4, 1, 0, 2, 0, 4, 0, 0, 0, 0, 3, 8, 6, 4])

    def test_what_have_come(self):
        told = ask(begin(1, 2), buy(0, 2), look(), mend(), look(), lose(0, 0), lose(0, 0), look(), buy(0, 6), look())
        self.assertEqual(told[2], [3, 2, 0, 0, 0, 0, 0, 0, 3, 2])
        self.assertEqual(told[4], [4, 2, 0, 0, 0, 0, 0, 0, 4, 2])
        self.assertEqual(told[7], [2, 2, 0, 0, 0, 0, 2, 0, 4, 2])
        self.assertEqual(told[9], [8, 2, 0, 0, 0, 0, 2, 0, 10, 2])

    def test_more_than_24_may_have_come_and_be_lost(self):
        told = ask(begin(8), *[lose(0, 0)] * 8, buy(0, 8), *[lose(0, 0)] * 8, buy(0, 8), *[lose(0, 0)] * 8, buy(0, 8),
                   *[lose(0, 0)] * 8, buy(0, 3), look())
        self.assertEqual(told[-1], [3, 0, 0, 32, 35])

    def test_all_that_have_come_are_somewhere(self):
        told = ask_last(*DAY, look())
        self.assertEqual(told, DAY_LOOK)
        rows = [told[at:at + 3] for at in range(0, 15, 3)]
        self.assertEqual([sum(counts) for counts in zip(*rows[:4])], rows[4])

    def test_looking_changes_nothing(self):
        self.assertEqual(ask(*DAY, look(), look(), look())[-3:], [DAY_LOOK] * 3)


class BehindTheDay(unittest.TestCase):
    """Promises 1 to 7 when socks were worn, washed, lost, bought and mended."""

    def test_begin(self):
        told = ask(*DAY, begin(3, 0, 2), look(), undress(), wash(), odd(), lose(1, 0), lose(2, 0), lose(0, 3))
        self.assertEqual(told[len(DAY):], [[0], [3, 0, 2] + [0] * 9 + [3, 0, 2], [0], [0], [1, 0], [-6], [-6], [-2]])
        self.assertEqual(ask(*DAY, begin(8), look(), buy(0, 1), wear(1))[len(DAY):],
                         [[0], [8, 0, 0, 0, 8], [-1], [-2]])

    def test_begin_makes_room_again(self):
        self.assertEqual(ask(begin(8, 8, 8), wear(0), wear(1), begin(1, 1), buy(0, 7), buy(1, 7), buy(1, 1))[3:],
                         [[0], [8], [8], [-1]])

    def test_a_refused_begin(self):
        for refused in (begin(), begin(9), begin(1, 1, 1, 1, 1, 1), begin(8, 8, 8, 1)):
            self.assertEqual(ask(*DAY, refused, look())[len(DAY):], [[-1], DAY_LOOK])

    def test_drawn_are_those_in_the_drawer_alone(self):
        asked = [surely(0), surely(1), surely(2), surely(3), colour(0), colour(1), colour(2), colour(3), chance(2, 1),
                 chance(4, 2), chance(5, 1), average(2), average(4), average(5), until(1), until(2), until(3), wear(0),
                 wear(1), wear(2), wear(3)]
        told = [[0], [3], [4], [-6], [4], [4], [-6], [-2], [1, 3], [1, 1], [-1], [1, 3], [2, 1], [-1], [8, 3], [4, 1],
                [-6], [0], [0], [-6], [-2]]
        self.assertEqual(ask(*DAY, *asked)[len(DAY):], told)
        self.assertEqual(ask(begin(2, 2, 0), *asked)[1:], told)

    def test_a_lost_sock_is_not_drawn(self):
        told = ask(begin(2, 2), lose(0, 0), surely(1), surely(2), colour(0), colour(1), chance(3, 1), chance(4, 1),
                   average(3), until(1), wear(0), wear(1))
        self.assertEqual(told[2:], [[3], [-6], [-6], [3], [1, 1], [-1], [1, 1], [8, 3], [-6], [0]])

    def test_a_bought_sock_is_drawn(self):
        for bought in (buy(1, 1), mend()):
            told = ask(begin(2, 1), surely(2), wear(1), bought, surely(2), colour(1), chance(4, 2), average(4),
                       until(2), wear(1))
            self.assertEqual(told[1:3], [[-6], [-6]])
            self.assertEqual(told[4:], [[4], [4], [1, 1], [2, 1], [4, 1], [0]], bought)

    def test_a_washed_pair_is_drawn(self):
        before = [begin(2, 2), wear(0), surely(2), undress(), surely(2)]
        told = ask(*before, wash(), surely(2), chance(2, 1), until(1), wear(0))
        self.assertEqual(told[1:], [[0], [-6], [2], [-6], [2], [4], [1, 3], [8, 3], [0]])


class NothingChanges(unittest.TestCase):
    def test_after_a_refusal(self):
        refusals = [(begin(), -1), (begin(9), -1), (begin(8, 8, 8, 1), -1), (surely(13), -1), (surely(12), -6),
                    (colour(3), -2), (colour(2), -6), (chance(5, 1), -1), (chance(1, 13), -1), (average(5), -1),
                    (until(13), -1), (until(12), -6), (wear(3), -2), (wear(2), -6), (lose(3, 0), -1), (lose(9, 9), -1),
                    (lose(0, 3), -2), (lose(1, 9), -2), (lose(0, 2), -6), (lose(1, 2), -6), (lose(2, 2), -6),
                    (buy(3, 1), -2), (buy(9, 0), -2), (buy(0, 0), -1), (buy(0, 4), -1), (buy(2, 9), -1)]
        self.assertEqual(ask_last(*DAY, look()), DAY_LOOK)
        for refused, number in refusals:
            self.assertEqual(ask(*DAY, refused, look())[len(DAY):], [[number], DAY_LOOK], refused)
        together = ask(*DAY, *[refused for refused, number in refusals], look())
        self.assertEqual(together[len(DAY):], [[number] for refused, number in refusals] + [DAY_LOOK])

    def test_after_a_wear_and_a_colour_that_are_not_there(self):
        told = ask(begin(3, 1), wear(0), wear(0), colour(0), wear(1), colour(1), look())
        self.assertEqual(told[2:], [[-6], [-6], [-6], [-6], [1, 1, 2, 0, 0, 0, 0, 0, 3, 1]])

    def test_after_a_refused_mend(self):
        before = [begin(7, 7, 7, 1), wear(0), undress(), wear(1)]
        row = [5, 5, 7, 1, 0, 2, 0, 0, 2, 0, 0, 0, 0, 0, 0, 0, 7, 7, 7, 1]
        self.assertEqual(ask(*before, look(), mend(), look(), mend(), odd())[4:],
                         [row, [-1], row, [-1], [4, 0, 1, 2, 3]])

    def test_where_it_is_only_asked(self):
        asked = [surely(1), colour(1), chance(3, 1), average(4), until(2), odd(), look()]
        told = ask(*DAY, *asked, *asked)[len(DAY):]
        self.assertEqual(told[:7], told[7:])
        self.assertEqual(told[6], DAY_LOOK)

    def test_without_a_drawer(self):
        calls = [undress(), wash(), lose(0, 0), lose(9, 9), buy(0, 1), buy(9, 0), odd(), mend(), look()]
        self.assertEqual(ask(*calls), [[-9]] * 9)
        self.assertEqual(ask(begin(9), *calls), [[-1]] + [[-9]] * 9)
        self.assertEqual(ask(*calls, begin(2, 1), look())[9:], [[0], [2, 1, 0, 0, 0, 0, 0, 0, 2, 1]])
