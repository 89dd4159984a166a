"""What is said of a line as a whole: how it is handed in, and how it is answered."""

import time
import unittest

from lines import LARGEST, ask, begin, book, cancel, line_of, row, split_answers
from trainseatsdesk.seating import answers

SECONDS_FOR_A_LINE = 20


class Lines(unittest.TestCase):
    MIXED = [row(0), begin(5, 2), book(0, 4), book(1, 3), book(1, 2), cancel(0), book(0, 2, 1), row(1), row(2),
             book(LARGEST, 0, LARGEST), begin(0, 0), cancel(7), begin(3, 1), book(0, 2), row(0)]

    def test_answers_stand_behind_how_many_numbers_they_have(self):
        line = [0, 4, 2, 1, 0, 3, 0, 3, 0, 2, 0, 2, 0, 1, 3, 3, 0]
        self.assertEqual(answers(line), [1, 0, 2, 0, 0, 5, 3, 0, 0, 0, 0, 1, 0, 1, -2, 1, -22])

    def test_one_call(self):
        self.assertEqual(answers([0, 2, 1]), [1, 0])
        self.assertEqual(answers([1, 0, 1, 0]), [1, -61])
        self.assertEqual(answers([2, 0]), [1, -2])
        self.assertEqual(answers([3, 0]), [1, -2])

    def test_whole_numbers_in_a_list(self):
        answered = answers(line_of(self.MIXED))
        self.assertIs(type(answered), list)
        for number in answered:
            self.assertIs(type(number), int)

    def test_list_handed_in_stays(self):
        line = line_of(self.MIXED)
        before = list(line)
        answered = answers(line)
        self.assertEqual(line, before)
        self.assertIsNot(answered, line)

    def test_handed_in_list_is_never_changed_for_a_while(self):
        answers(Unchanged(line_of(self.MIXED)))

    def test_second_time_as_the_first(self):
        line = line_of(self.MIXED)
        first = answers(line)
        kept = list(first)
        self.assertEqual(answers(line), kept)
        first.clear()
        self.assertEqual(answers(line), kept)

    def test_nothing_is_kept_from_one_line_to_the_next(self):
        self.assertEqual(ask(begin(3, 1), book(0, 2)), [[0], [0, 0]])
        self.assertEqual(ask(book(0, 2), row(0), cancel(0)), [[-61], [-2], [-2]])


class Unchanged(list):
    """A list that fails when it is changed."""

    def refuse(self, *values, **named):
        raise AssertionError("the list that was handed in is changed")

    append = clear = extend = insert = pop = remove = reverse = sort = refuse
    __setitem__ = __delitem__ = __iadd__ = __imul__ = refuse


class LongLines(unittest.TestCase):
    def answer_in_time(self, calls):
        line = line_of(calls)
        self.assertEqual(len(calls), 5000)
        self.assertLessEqual(len(line), 30000)
        began = time.monotonic()
        answered = answers(line)
        self.assertLess(time.monotonic() - began, SECONDS_FOR_A_LINE)
        split = split_answers(answered)
        self.assertEqual(len(split), 5000)
        return split

    def assert_all_are(self, expected, told):
        # One by one: to show how two such long lists differ would take minutes.
        for answer in told:
            self.assertEqual(answer, expected)

    def train_after_train(self, how):
        one_train = [begin(17, 12)] + [book(k % 8, 16 - k % 3, how) for k in range(12)]
        one_train += [cancel(k) for k in range(0, 12, 2)] + [book(k % 4, 9 + k % 8, how) for k in range(28)]
        one_train += [row(k) for k in range(40)]
        many = []
        while len(many) < 5000:
            many += one_train
        return one_train, many[:5000]

    def test_trains_one_behind_another(self):
        for how in (0, 1):
            one_train, many = self.train_after_train(how)
            split = self.answer_in_time(many)
            size = len(one_train)
            self.assertEqual(split[:size], ask(*one_train))
            self.assertEqual(split[size:2 * size], split[:size])

    def test_many_rows(self):
        split = self.answer_in_time([begin(17, 12), book(0, 16)] + [row(0)] * 4998)
        self.assert_all_are([16, 0] + [0] * 16, split[2:])

    def test_many_refused_bookings(self):
        full = [begin(17, 12)] + [book(0, 16)] * 12
        split = self.answer_in_time(full + [book(0, 16, k % 2) for k in range(4987)])
        self.assert_all_are([-1000], split[13:])


if __name__ == "__main__":
    unittest.main()
