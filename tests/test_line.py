"""The interface: how calls and answers are told, and what is the same afterwards."""

import contextlib
import io
import random
import sys
import unittest

from tests.line import LARGEST, apart, line, run, sixty_works
from tongueoffice.office import answers

KEYS = (0, 0, 1, 1, 2, 2, 100, LARGEST)
TONGUES = (0, 0, 0, 0, 1, 4)
TEXTS = (1, 1, 1, 2, 0, 1000)
TRANSLATIONS = (0, 1, 1, 2, 2, 2, 3, 3, 999, 1000)
ASKING = ("look", "now", "todo", "offer", "open", "changed", "state")
NAMES = ("text", "text", "gone", "translate", "translate", "send", "choose", "release",
         "back", "back", "back", "back") + ASKING
BEGINNING = [("text", 0, 1), ("text", 1, 1), ("send", 0, [0, 1]), ("send", 0, [1, 0])]


def any_keys(source):
    if source.random() < 0.2:
        return [source.choice(KEYS) for step in range(source.choice((0, 2, 7)))]
    return source.sample((0, 1), source.choice((1, 2)))


def any_call(source):
    pick = source.choice
    name = pick(NAMES)
    if name == "text":
        return (name, pick(KEYS), pick(TEXTS))
    if name == "gone":
        return (name, pick(KEYS))
    if name == "translate":
        return (name, pick(TONGUES), pick(KEYS[:5]), pick(TRANSLATIONS))
    if name == "send":
        return (name, pick(TONGUES), any_keys(source))
    if name == "back":
        row = []
        for key in any_keys(source):
            row += [key, pick(TRANSLATIONS)]
        return (name, pick((0, 0, 0, 1, 1, 2, 10)), row)
    if name == "choose":
        return (name, 0, pick((0, 1)), pick((1, 1, 2)), pick((0, 1)))
    if name == "look":
        return (name, pick((0, 0, 1, 2, LARGEST)), pick(KEYS))
    if name == "changed":
        return (name, pick((0, 0, 1, 2, LARGEST)), pick((0, 1, 1, 2, LARGEST)))
    if name == "offer":
        return (name, pick(TONGUES), pick(KEYS))
    if name == "state":
        return (name,)
    return (name, pick(TONGUES))


def any_lines():
    source = random.Random(7)
    return [BEGINNING + [any_call(source) for step in range(36)] for turn in range(400)]


class HowItIsTold(unittest.TestCase):
    def test_one_call(self):
        self.assertEqual(answers([0, 7, 1]), [5, 1, 0, 0, 0, 0])
        self.assertEqual(answers([0, 100, 1]), [1, -1])
        self.assertEqual(answers([6, 3]), [3, 0, 0, 0])

    def test_several_calls(self):
        calls = [
            0, 7, 1,
            0, 8, 2,
            2, 1, 7, 30,
            3, 1, 2, 8, 7,
            2, 1, 7, 31,
            4, 0, 4, 7, 32, 8, 33,
            4, 1, 2, 7, 32,
            5, 1, 7, 1, 1,
            6, 1,
            1, 8,
            1, 8,
            3, 1, 0,
            4, 0, 0,
        ]
        self.assertEqual(answers(calls), [
            5, 1, 0, 0, 0, 0,
            5, 2, 0, 0, 0, 0,
            5, 2, 1, 0, 0, 0,
            1, 0,
            5, 2, 1, 1, 0, 0,
            3, 1, 3, 2,
            1, -2,
            5, 2, 2, 1, 0, 0,
            3, 0, 2, 2,
            5, 1, 2, 1, 0, 1,
            1, -2,
            1, -1,
            1, -1,
        ])

    def test_forty_calls_of_all_kinds(self):
        told = [
            ([13], [0, 0, 0, 0, 0]),
            ([0, 7, 1], [1, 0, 0, 0, 0]),
            ([0, 3, 2], [2, 0, 0, 0, 0]),
            ([0, 9, 1], [3, 0, 0, 0, 0]),
            ([2, 1, 9, 30], [3, 1, 0, 0, 0]),
            ([8, 1], [3, 3, 2, 0, 7, 1, 0, 9, 30, 1]),
            ([9, 1], [2, 3, 2, 0, 7, 1, 30]),
            ([10, 1, 7], [1, 0, 30]),
            ([3, 1, 3, 9, 7, 3], [0]),
            ([6, 1], [0, 3, 1]),
            ([2, 1, 7, 31], [3, 2, 1, 0, 1]),
            ([2, 1, 3, 40], [3, 3, 1, 0, 1]),
            ([0, 3, 5], [3, 3, 1, 0, 1]),
            ([4, 0, 6, 3, 41, 7, 32, 9, 33], [1, 3, 3, 2]),
            ([11, 1], [2, 3, 2, 41, 40, 7, 1, 32, 31]),
            ([11, 0], [0]),
            ([13], [3, 3, 1, 2, 1]),
            ([6, 1], [1, 3, 2]),
            ([12, 0, 1], [3, 3, 7, 9]),
            ([7, 0, 9], [30, 1]),
            ([7, 1, 3], [5, 0]),
            ([7, 1, 4], [-6]),
            ([7, 2, 3], [-2]),
            ([5, 1, 3, 2, 1], [3, 3, 1, 1, 2]),
            ([10, 1, 3], [5, 0, 41]),
            ([1, 9], [2, 3, 1, 1, 2]),
            ([10, 1, 7], [1, 31, 31]),
            ([2, 1, 7, 0], [2, 2, 1, 1, 2]),
            ([9, 1], [2, 3, 5, 41, 7, 1, 33]),
            ([11, 1], [1, 7, 1, 32, 0]),
            ([10, 1, 9], [-2]),
            ([10, 4, 9], [-1]),
            ([8, 4], [-1]),
            ([9, 4], [-1]),
            ([11, 4], [-1]),
            ([0, 1, 31], [3, 2, 1, 1, 2]),
            ([6, 0], [2, 3, 0]),
            ([12, 1, 2], [3, 7, 9, 1]),
            ([12, 3, 0], [-2]),
            ([4, 0, 2, 7, 32], [0, 1]),
        ]
        self.assertEqual(len(told), 40)
        self.assertEqual({call[0] for call, answer in told}, set(range(14)))
        calls = []
        expected = []
        for call, answer in told:
            calls += call
            expected += [len(answer)] + answer
        kept = list(calls)
        self.assertEqual(answers(calls), expected)
        self.assertEqual(calls, kept)
        self.assertEqual(answers(calls), expected)

    def test_each_call_takes_just_its_numbers(self):
        """Behind each call the text of key 0 is read as it should be."""
        for call in [
            [0, 1, 1], [1, 1], [2, 0, 1, 1], [3, 0, 0], [4, 0, 0], [5, 0, 0, 0, 0], [6, 0],
            [7, 1, 1], [8, 1], [9, 1], [10, 1, 1], [11, 1], [12, 1, 1], [13],
        ]:
            with self.subTest(call=call):
                found = apart(answers(call + [0, 0, 5, 10, 3, 0]))
                self.assertEqual((len(found), found[2]), (3, [5, 0, 0]))

    def test_a_line_of_asking_alone(self):
        found = run([
            ("look", 0, 0), ("now", 0), ("todo", 0), ("offer", 0, 0), ("open", 0), ("changed", 0, 0), ("state",),
        ])
        self.assertEqual(found, [[-2], [0], [0], [-2], [0], [-2], [0, 0, 0, 0, 0]])

    def test_longest_rows(self):
        found = apart(answers([3, 0, 10] + [0] * 10 + [4, 0, 20] + [0] * 20 + [0, 1, 1]))
        self.assertEqual(found, [[-1], [-1], [1, 0, 0, 0, 0]])

    def test_whole_numbers_alone(self):
        for calls in any_lines()[:50] + [sixty_works()]:
            told = answers(line(calls))
            self.assertIs(type(told), list)
            self.assertEqual({type(number) for number in told}, {int})


class TheSameAfterwards(unittest.TestCase):
    def test_what_is_handed_in(self):
        for calls in any_lines()[:50] + [sixty_works()]:
            numbers = line(calls)
            kept = list(numbers)
            answers(numbers)
            self.assertEqual(numbers, kept)

    def test_what_is_handed_in_is_not_changed_for_a_while_either(self):
        class Unchanging(list):
            def refuse(self, *parts):
                raise AssertionError("what is handed in is changed")

            append = extend = insert = pop = remove = clear = reverse = sort = refuse
            __setitem__ = __delitem__ = __iadd__ = __imul__ = refuse

        for calls in any_lines()[:50] + [sixty_works()]:
            answers(Unchanging(line(calls)))

    def test_nothing_is_kept(self):
        lines = any_lines()[:50] + [sixty_works()]
        first = [answers(line(calls)) for calls in lines]
        self.assertEqual([answers(line(calls)) for calls in lines], first)
        told = answers([0, 7, 1])
        told.append(9)
        self.assertEqual(answers([0, 7, 1]), [5, 1, 0, 0, 0, 0])

    def test_nothing_is_printed_or_imported(self):
        shown = io.StringIO()
        known = set(sys.modules)
        with contextlib.redirect_stdout(shown), contextlib.redirect_stderr(shown):
            answers(line(sixty_works()))
        self.assertEqual(shown.getvalue(), "")
        self.assertEqual(set(sys.modules), known)


class AnyLines(unittest.TestCase):
    def test_all_is_as_it_was_after_a_refusal(self):
        """Without the refused calls, all others answer the same."""
        refusals = set()
        for calls in any_lines():
            found = run(calls)
            refusals |= {answer[0] for answer in found if answer[0] < 0}
            kept = [(call, answer) for call, answer in zip(calls, found) if answer[0] >= 0]
            if kept:
                self.assertEqual(run([call for call, answer in kept]), [answer for call, answer in kept])
        self.assertEqual(refusals, {-1, -2, -3, -6})

    def test_asking_changes_nothing(self):
        """Without the calls 7 to 13, all others answer the same; asked twice, they say the same."""
        for calls in any_lines():
            found = run(calls)
            kept = [(call, answer) for call, answer in zip(calls, found) if call[0] not in ASKING]
            self.assertEqual(run([call for call, answer in kept]), [answer for call, answer in kept])
            for call in calls[-10:]:
                if call[0] in ASKING:
                    twice = run(calls[:20] + [call, call])
                    self.assertEqual(twice[20], twice[21])

    def test_a_call_answers_by_those_ahead_of_it_alone(self):
        for calls in any_lines()[:50]:
            found = run(calls)
            for length in (1, 10, 20, 39):
                self.assertEqual(run(calls[:length]), found[:length])

    def test_a_refusal_is_alone_and_nothing_else_is_below_none(self):
        sizes = {"text": 5, "gone": 5, "translate": 5, "send": 1, "choose": 5, "release": 3,
                 "look": 2, "offer": 3, "state": 5}
        each = {"now": 3, "todo": 3, "open": 4, "changed": 1}
        seen = set()
        for calls in any_lines():
            for call, answer in zip(calls, run(calls)):
                if min(answer) < 0:
                    self.assertEqual(len(answer), 1)
                elif call[0] == "back":
                    self.assertEqual(len(answer), 1 + len(call[2]) // 2)
                    self.assertEqual(answer[0], answer[1:].count(2))
                    seen |= set(answer[1:])
                elif call[0] in each:
                    self.assertEqual(len(answer), 1 + each[call[0]] * answer[0])
                else:
                    self.assertEqual(len(answer), sizes[call[0]])
        self.assertEqual(seen, {0, 1, 2, 3})


if __name__ == "__main__":
    unittest.main()
