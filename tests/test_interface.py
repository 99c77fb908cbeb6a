import unittest

from nightsocks.drawer import answers

LINE = [0, 2, 2, 2, 1, 1, 2, 0, 3, 2, 1, 4, 3, 5, 1, 6, 1, 6, 1, 6, 2]
TOLD = [1, 0, 1, 3, 1, 4, 2, 1, 3, 2, 1, 1, 2, 8, 3, 1, 0, 1, -6, 1, -2]
# begin's rows have numbers that are calls, too; each is read whole, the refused ones likewise.
ROWS = [0, 0, 0, 8, 1, 1, 1, 1, 1, 1, 1, 1, 0, 6, 0, 0, 0, 0, 0, 0, 0, 5, 0, 1, 2, 3, 4, 1, 0]
UNSEEN = [7, 8, 9, 0, 0, 10, 0, 1, 11, 12, 13, 9, 9, 9, 10, 9, 20, 1, 0]


class Interface(unittest.TestCase):
    def test_calls_stand_one_behind_another(self):
        self.assertEqual(answers(LINE), TOLD)

    def test_rows(self):
        self.assertEqual(answers(ROWS), [1, -1, 1, -1, 1, -1, 1, 0, 1, 0])

    def test_every_call_is_read_to_its_end(self):
        self.assertEqual(answers(UNSEEN), [1, -9] * 10)

    def test_a_single_call(self):
        self.assertEqual(answers([0, 1, 0]), [1, 0])
        self.assertEqual(answers([1, 0]), [1, -9])

    def test_60_calls(self):
        line = [0, 3, 8, 8, 8] + [5, 12] * 59
        self.assertEqual(answers(line), [1, 0] + [2, 24, 1] * 59)

    def test_kinds(self):
        for line in (LINE, ROWS, UNSEEN):
            told = answers(line)
            self.assertIs(type(told), list)
            self.assertEqual({type(number) for number in told}, {int})

    def test_what_is_handed_in_stays(self):
        for line in (LINE, ROWS, UNSEEN):
            handed = list(line)
            answers(handed)
            self.assertEqual(handed, line)

    def test_what_is_handed_in_is_not_changed_for_a_while(self):
        class Watched(list):
            def refuse(self, *words):
                raise AssertionError("the list was changed")

            append = extend = insert = pop = remove = clear = sort = reverse = refuse
            __setitem__ = __delitem__ = __iadd__ = __imul__ = refuse

        self.assertEqual(answers(Watched(LINE)), TOLD)

    def test_nothing_is_kept(self):
        self.assertEqual(answers(LINE), TOLD)
        self.assertEqual(answers([1, 0, 6, 0]), [1, -9, 1, -9])
        self.assertEqual(answers(LINE), TOLD)

    def test_what_is_given_back_is_new(self):
        first = answers(LINE)
        first.clear()
        self.assertEqual(answers(LINE), TOLD)
