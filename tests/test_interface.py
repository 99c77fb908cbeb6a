import unittest

from nightsocks.drawer import answers

LINE = [0, 2, 2, 2, 1, 1, 2, 0, 3, 2, 1, 4, 3, 5, 1, 6, 1, 6, 1, 6, 2]
TOLD = [1, 0, 1, 3, 1, 4, 2, 1, 3, 2, 1, 1, 2, 8, 3, 1, 0, 1, -6, 1, -2]
# begin's rows have numbers that are calls, too; each is read whole, the refused ones likewise.
ROWS = [0, 0, 0, 8, 1, 1, 1, 1, 1, 1, 1, 1, 0, 6, 0, 0, 0, 0, 0, 0, 0, 5, 0, 1, 2, 3, 4, 1, 0]
UNSEEN = [7, 8, 9, 0, 0, 10, 0, 1, 11, 12, 13, 9, 9, 9, 10, 9, 20, 1, 0]

# All fourteen calls three times over; the second begin takes away what there was, the third is refused.
FOURTEEN = [[0, 2, 5, 4], [6, 0], [7], [9, 2, 0], [8], [10, 1, 1], [11], [12], [13], [1, 2], [2, 1], [3, 2, 1], [4, 3],
            [5, 1],
            [0, 3, 1, 2, 3], [9, 0, 2], [1, 1], [11], [2, 2], [6, 1], [3, 3, 1], [7], [4, 1], [12], [5, 1], [10, 2, 6],
            [8], [13],
            [0, 6, 1, 1, 1, 1, 1, 1], [1, 13], [2, 3], [3, 13, 1], [4, 13], [5, 20], [6, 5], [7], [8], [9, 3, 3],
            [10, 3, 0], [11], [12], [13]]
FOURTEEN_TOLD = [[0], [3], [2], [1], [1], [5], [1, 1], [1], [4, 6, 0, 0, 0, 0, 1, 0, 5, 6], [5], [6], [7, 15], [1, 1],
                 [38, 15],
                 [0], [2], [4], [1, 0], [5], [0], [1, 1], [2], [0, 1], [1], [8, 3], [8],
                 [2], [2, 2, 8, 0, 0, 0, 0, 0, 0, 0, 0, 1, 2, 2, 9],
                 [-1], [-1], [-2], [-1], [-1], [-1], [-2], [0], [0], [-1],
                 [-2], [0], [0], [2, 2, 8, 0, 0, 0, 0, 0, 0, 0, 0, 1, 2, 2, 9]]


def in_one(calls):
    return [number for call in calls for number in call]


def counted(told):
    return [number for answer in told for number in [len(answer), *answer]]


class Interface(unittest.TestCase):
    def test_calls_stand_one_behind_another(self):
        self.assertEqual(answers(LINE), TOLD)

    def test_all_fourteen_calls(self):
        self.assertEqual(answers(in_one(FOURTEEN)), counted(FOURTEEN_TOLD))

    def test_any_beginning_of_a_line_is_answered_likewise(self):
        for size in range(1, len(FOURTEEN)):
            self.assertEqual(answers(in_one(FOURTEEN[:size])), counted(FOURTEEN_TOLD[:size]), size)

    def test_rows(self):
        self.assertEqual(answers(ROWS), [1, -1, 1, -1, 1, -1, 1, 0, 1, 0])

    def test_every_call_is_read_to_its_end(self):
        self.assertEqual(answers(UNSEEN), [1, -9] * 10)

    def test_a_single_call(self):
        self.assertEqual(answers([0, 1, 0]), [1, 0])
        self.assertEqual(answers([1, 0]), [1, -9])

    def test_60_calls(self):
        line = [0, 3, 8, 8, 8] + [5, 12] * 59
        self.assertEqual(answers(line), [1, 0] + [2, 24, 1] * 59)
        self.assertEqual(answers(in_one(FOURTEEN + FOURTEEN[:18])), counted(FOURTEEN_TOLD + FOURTEEN_TOLD[:18]))

    def test_600_numbers(self):
        self.assertEqual(answers([0, 8, 1, 1, 1, 1, 1, 1, 1, 1] * 60), [1, -1] * 60)

    def test_kinds(self):
        for line in (LINE, ROWS, UNSEEN, in_one(FOURTEEN)):
            told = answers(line)
            self.assertIs(type(told), list)
            self.assertEqual({type(number) for number in told}, {int})

    def test_what_is_handed_in_stays(self):
        for line in (LINE, ROWS, UNSEEN, in_one(FOURTEEN)):
            handed = list(line)
            answers(handed)
            self.assertEqual(handed, line)

    def test_what_is_handed_in_is_not_changed_for_a_while(self):
        class Watched(list):
            def refuse(self, *words):
                raise AssertionError("the list was changed")

            append = extend = insert = pop = remove = clear = sort = reverse = refuse
            __setitem__ = __delitem__ = __iadd__ = __imul__ = refuse

        self.assertEqual(answers(Watched(LINE)), TOLD)
        self.assertEqual(answers(Watched(in_one(FOURTEEN))), counted(FOURTEEN_TOLD))

    def test_nothing_is_kept(self):
        for number in range(2):
            self.assertEqual(answers(LINE), TOLD)
            self.assertEqual(answers([1, 0, 6, 0]), [1, -9, 1, -9])
            self.assertEqual(answers(in_one(FOURTEEN)), counted(FOURTEEN_TOLD))
            self.assertEqual(answers([13, 7, 8, 11, 12]), [1, -9] * 5)
            self.assertEqual(answers([0, 1, 1, 13]), [1, 0, 5, 1, 0, 0, 0, 1])

    def test_what_is_given_back_is_new(self):
        first = answers(LINE)
        first.clear()
        self.assertEqual(answers(LINE), TOLD)
