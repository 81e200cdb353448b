"""The interface: how calls stand in the list, how answers do, and what is left as it was."""

import contextlib
import io
import unittest

from calls import BEGIN, LOOK, all_letter_0, ask, letters, line, overlaps, take_apart, wait, word
from wordwait.desk import answers

MIXED = line(BEGIN, letters(3), word(0, [2, 1, 2]), word(1, [1, 2]), overlaps(0, 1), overlaps(1, 0), wait(0),
             letters(9), word(7, [1]), word(2, []), overlaps(0, 4), wait(-1), wait(1), BEGIN, wait(0))
MIXED_ANSWERS = [1, 0, 1, 0, 1, 0, 1, 0, 1, 2, 1, 1, 2, 0, 30,
                 1, -1, 1, -1, 1, -1, 1, -1, 1, -1, 2, 0, 9, 1, 0, 2, 0, 2]


def refuse(*arguments):
    raise AssertionError("the list handed in was changed")


class ReadOnlyList(list):
    """A list that tells of a change at once, so that one that is taken back again is seen too."""

    append = extend = insert = pop = remove = clear = sort = reverse = refuse
    __setitem__ = __delitem__ = __iadd__ = __imul__ = refuse


class AnswersTest(unittest.TestCase):
    def assert_alike(self, told, expected):
        # unittest takes many minutes to show where two lists of this length differ.
        self.assertTrue(told == expected, f"told {told}, expected {expected}")

    def test_empty_list(self):
        self.assertEqual(answers([]), [])

    def test_begin_alone(self):
        self.assertEqual(answers([0]), [1, 0])

    def test_every_kind_of_call_and_refusal(self):
        self.assertEqual(answers(list(MIXED)), MIXED_ANSWERS)

    def test_answers_are_a_list_of_ints(self):
        told = answers(list(MIXED))
        self.assertIs(type(told), list)
        self.assertEqual({type(number) for number in told}, {int})

    def test_400_calls(self):
        self.assert_alike(answers(line(BEGIN, *[wait(k % 4) for k in range(399)])), [1, 0] + [2, 0, 2] * 399)

    def test_400_calls_as_long_as_they_can_be(self):
        rows = [[(k + place * place) % 2 for place in range(16)] for k in range(397)]
        calls = line(BEGIN, *[word(k % 4, row) for k, row in enumerate(rows)], overlaps(0, 0), wait(1))
        self.assertLessEqual(len(calls), 8000)
        told = take_apart(answers(calls))
        self.assertEqual(len(told), 400)
        self.assert_alike(told[:398], [[0]] * 398)
        self.assertEqual(told[398:], ask(word(0, rows[396]), word(1, rows[393]), overlaps(0, 0), wait(1))[2:])

    def test_400_times_begin(self):
        self.assert_alike(answers([0] * 400), [1, 0] * 400)

    def test_400_refusals(self):
        self.assert_alike(answers(line(BEGIN, *[wait(4)] * 399)), [1, 0] + [1, -1] * 399)

    def test_list_handed_in_is_as_it_was(self):
        calls = list(MIXED)
        answers(calls)
        self.assertEqual(calls, MIXED)

    def test_list_handed_in_is_not_changed_for_a_while_either(self):
        calls = ReadOnlyList(MIXED)
        self.assertEqual(answers(calls), MIXED_ANSWERS)
        self.assertEqual(list(calls), MIXED)

    def test_empty_list_gives_a_list_of_its_own(self):
        calls = []
        told = answers(calls)
        told.append(1)
        self.assertEqual(calls, [])
        self.assertEqual(answers([]), [])

    def test_two_times_know_nothing_of_one_another(self):
        answers(line(BEGIN, letters(6), *[word(i, [5, 4, 5]) for i in range(4)]))
        self.assertEqual(ask(*LOOK), all_letter_0(2))

    def test_new_at_a_lines_beginning_whatever_was_before(self):
        first = answers(list(MIXED))
        first.clear()
        self.assertEqual(answers(list(MIXED)), MIXED_ANSWERS)

    def test_prints_nothing(self):
        out = io.StringIO()
        with contextlib.redirect_stdout(out), contextlib.redirect_stderr(out):
            answers(list(MIXED))
        self.assertEqual(out.getvalue(), "")


if __name__ == "__main__":
    unittest.main()
