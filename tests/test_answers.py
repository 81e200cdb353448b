"""The interface: how calls stand in the list, how answers do, and what is left as it was."""

import contextlib
import io
import unittest

from calls import (BEGIN, LOOK, all_letter_0, ask, ask_last, before, chance, firsts, letters, line, look_behind,
                   overlaps, rival, take_apart, wait, without, word)
from wordwait.desk import answers

MIXED_CALLS = [BEGIN, letters(3), word(0, [2, 1, 2]), word(1, [1, 2]), word(2, [0, 1]),
               overlaps(0, 1), overlaps(1, 0), wait(0), without(1, 2), firsts(1, 3), before(1, 2, 3),
               chance(1, 2), chance(0, 1), rival(1, 8), rival(1, 1), rival(1, 0),
               letters(9), word(7, [1]), word(2, []), overlaps(0, 4), wait(-1), without(4, 2), firsts(1, 21),
               before(1, 4, 3), chance(-1, 0), rival(4, 1),
               wait(1), word(3, [0] * 9), rival(3, 8), BEGIN, wait(0), rival(0, 8)]
MIXED = line(*MIXED_CALLS)
MIXED_ANSWERS = line([1, 0], [1, 0], [1, 0], [1, 0], [1, 0],
                     [1, 2], [1, 1], [2, 0, 30], [2, 0, 8], [2, 0, 3], [2, 0, 2],
                     [3, 0, 2, 5], [1, -3], [3, 2, 0, 1], [2, 2, 0], [1, 2],
                     *[[1, -1]] * 10,
                     [2, 0, 9], [1, 0], [1, -1], [1, 0], [2, 0, 2], [2, 1, 1])


def round_of_calls(k):
    """All calls but begin, some refused, on words that differ from round to round; q stays for three rounds."""
    q = 2 + k // 3 % 5
    rows = [[(k * place + place // 2 + size + k) % q for place in range(size)] for size in (1 + k % 16, 8, 3)]
    setting = [letters(q)] if k % 3 == 0 else []
    return setting + [word(k % 4, rows[0]), word((k + 1) % 4, rows[1]), word((k + 2) % 5, rows[2]),
                      overlaps(k % 4, (k + 1) % 4), wait(k % 4), without(k % 4, k % 22), firsts(k % 5, 20),
                      before((k + 2) % 4, (k + 1) % 4, 20), chance(k % 4, (k + 2) % 4), rival((k + 1) % 4, k % 10),
                      rival(k % 4, 8)]


def many_calls(count):
    calls = [BEGIN]
    k = 0
    while len(calls) < count:
        calls += round_of_calls(k)
        k += 1
    return calls[:count]


def asked_alone(calls):
    """What each call answers if it's asked behind nothing but what sets q and the four words as they are then."""
    told = []
    setting = []
    for call in calls:
        answer = ask_last(*setting, call)
        told.append(answer)
        if call == BEGIN:
            setting = []
        elif call[0] == 1 and answer == [0]:
            setting = [call]
        elif call[0] == 2 and answer == [0]:
            setting = [other for other in setting if other[:2] != call[:2]] + [call]
    return told


def refuse(*arguments):
    raise AssertionError("the list handed in was changed")


class ReadOnlyList(list):
    """A list that tells of a change at once, so that one that is taken back again is seen too."""

    append = extend = insert = pop = remove = clear = sort = reverse = refuse
    __setitem__ = __delitem__ = __iadd__ = __imul__ = refuse


class AnswersTest(unittest.TestCase):
    def assert_alike(self, told, expected):
        # unittest takes many minutes to show where two lists of this length differ.
        self.assertTrue(told == expected, f"told {told}, expected {expected}")

    def test_empty_list(self):
        self.assertEqual(answers([]), [])

    def test_begin_alone(self):
        self.assertEqual(answers([0]), [1, 0])

    def test_every_kind_of_call_and_refusal(self):
        self.assertEqual(sorted({call[0] for call in MIXED_CALLS}), list(range(10)))
        self.assertEqual(answers(list(MIXED)), MIXED_ANSWERS)

    def test_answers_are_a_list_of_ints(self):
        told = answers(list(MIXED))
        self.assertIs(type(told), list)
        self.assertEqual({type(number) for number in told}, {int})

    def test_400_calls(self):
        self.assert_alike(answers(line(BEGIN, *[wait(k % 4) for k in range(399)])), [1, 0] + [2, 0, 2] * 399)

    def test_400_calls_as_long_as_they_can_be(self):
        rows = [[(k + place * place) % 2 for place in range(16)] for k in range(397)]
        calls = line(BEGIN, *[word(k % 4, row) for k, row in enumerate(rows)], overlaps(0, 0), wait(1))
        self.assertLessEqual(len(calls), 8000)
        told = take_apart(answers(calls))
        self.assertEqual(len(told), 400)
        self.assert_alike(told[:398], [[0]] * 398)
        self.assertEqual(told[398:], ask(word(0, rows[396]), word(1, rows[393]), overlaps(0, 0), wait(1))[2:])

    def test_400_calls_in_which_all_ten_stand(self):
        calls = many_calls(400)
        handed_in = line(*calls)
        self.assertEqual(sorted({call[0] for call in calls}), list(range(10)))
        self.assertLessEqual(len(handed_in), 8000)
        told = answers(handed_in)
        self.assert_alike(take_apart(told), asked_alone(calls))
        self.assert_alike(handed_in, line(*calls))
        self.assert_alike(answers(ReadOnlyList(handed_in)), told)

    def test_400_of_the_longest_counts(self):
        calls = line(BEGIN, letters(6), word(0, [5] * 15 + [4]), word(1, [4] + [5] * 15), *[before(0, 1, 20)] * 396)
        self.assert_alike(answers(calls), [1, 0] * 4 + [2, 0, 1037] * 396)

    def test_400_times_begin(self):
        self.assert_alike(answers([0] * 400), [1, 0] * 400)

    def test_400_refusals(self):
        self.assert_alike(answers(line(BEGIN, *[wait(4)] * 399)), [1, 0] + [1, -1] * 399)

    def test_list_handed_in_is_as_it_was(self):
        calls = list(MIXED)
        answers(calls)
        self.assertEqual(calls, MIXED)

    def test_list_handed_in_is_not_changed_for_a_while_either(self):
        calls = ReadOnlyList(MIXED)
        self.assertEqual(answers(calls), MIXED_ANSWERS)
        self.assertEqual(list(calls), MIXED)

    def test_empty_list_gives_a_list_of_its_own(self):
        calls = []
        told = answers(calls)
        told.append(1)
        self.assertEqual(calls, [])
        self.assertEqual(answers([]), [])

    def test_two_times_know_nothing_of_one_another(self):
        answers(line(BEGIN, letters(6), *[word(i, [5, 4, 5]) for i in range(4)]))
        self.assertEqual(ask(*LOOK), all_letter_0(2))

    def test_two_times_on_other_words_know_nothing_of_one_another(self):
        asked = [without(0, 5), firsts(0, 5), before(0, 1, 5), chance(0, 1), rival(0, 8)]
        first = [word(0, [1, 1]), word(1, [0, 1, 0])] + asked
        second = [letters(3), word(0, [1, 2]), word(1, [0])] + asked
        first_told = ask(*first)
        second_told = ask(*second)
        self.assertEqual(first_told[2:], [[0, 13], [0, 3], [0, 2], [0, 5, 8], [2, 0, 1]])
        self.assertEqual(second_told[3:], [[0, 144], [0, 21], [0, 4], [0, 1, 4], [2, 0, 1]])
        self.assertEqual(ask(*first), first_told)
        self.assertEqual(ask(*second), second_told)

    def test_calls_that_only_tell_change_nothing(self):
        tells = [call for call in MIXED_CALLS if call[0] > 2]
        self.assertEqual(look_behind(*tells), look_behind())
        self.assertEqual(ask(letters(4), *tells, word(0, [3]), word(0, [4]))[-2:], [[0], [-1]])

    def test_new_at_a_lines_beginning_whatever_was_before(self):
        first = answers(list(MIXED))
        first.clear()
        self.assertEqual(answers(list(MIXED)), MIXED_ANSWERS)

    def test_prints_nothing(self):
        out = io.StringIO()
        with contextlib.redirect_stdout(out), contextlib.redirect_stderr(out):
            answers(list(MIXED))
        self.assertEqual(out.getvalue(), "")


if __name__ == "__main__":
    unittest.main()
