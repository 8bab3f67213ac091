"""After a refusal, and after a call that asks, all is as it was."""

import unittest

from tests.line import LARGEST, SIX, fifty_four_works, pairs, run, sixty_works, texts

# Work under several texts and keys, two things open, two releases, ten keys.
OFFICE = texts(range(4, 10), 1) + [
    ("text", 0, 1), ("text", 1, 2), ("text", 2, 1), ("text", 3, 4),
    ("translate", 0, 2, 20), ("send", 0, [0, 1, 2]), ("translate", 0, 0, 30), ("translate", 0, 1, 31),
    ("release", 0), ("text", 1, 3), ("translate", 0, 1, 32), ("back", 0, [1, 41, 0, 40]), ("release", 1),
]
# What comes later: it closes both, and tells of the bases.
LATER = [
    ("back", 0, [2, 42, 0, 40]), ("choose", 0, 0, 1, 1), ("choose", 0, 1, 2, 0), ("text", 1, 5),
    ("offer", 0, 1), ("offer", 0, 2), ("release", 0), ("changed", 0, 2), ("gone", 0), ("now", 0), ("todo", 0),
    ("send", 0, [1]), ("state",),
]
ASKED = [("state",)]
for number in (0, 1, 2, 3):
    ASKED += [("now", number), ("todo", number), ("open", number), ("changed", 0, number), ("changed", number, 1)]
    ASKED += [("look", number, key) for key in (0, 1, 9)]
ASKED += [("offer", tongue, key) for tongue in (0, 1) for key in (0, 1, 2, 5)]


def what_it_answers(calls):
    """All that is asked behind these calls, in as many lines as that takes."""
    room = 40 - len(calls)
    found = []
    for at in range(0, len(ASKED), room):
        found += run(calls + ASKED[at:at + room])[len(calls):]
    return found


class AfterARefusal(unittest.TestCase):
    def unchanged(self, calls, refused, refusal):
        with self.subTest(refused=refused):
            self.assertEqual(run(calls + [refused])[-1], [refusal])
            self.assertEqual(what_it_answers(calls + [refused]), what_it_answers(calls))

    def test_of_each_call(self):
        later = run(OFFICE + LATER)[len(OFFICE):]
        for refused, refusal in [
            (("text", 100, 1), -1), (("text", 0, 0), -1), (("text", 0, 1000), -1), (("text", 10, 1), -5),
            (("gone", 10), -2), (("gone", LARGEST), -2),
            (("translate", 4, 0, 5), -1), (("translate", 0, 0, 1000), -1), (("translate", 0, 10, 5), -2),
            (("send", 4, [0]), -1), (("send", 0, []), -1), (("send", 0, [0, 0]), -1),
            (("send", 0, [0, 1, 2, 3, 4, 5, 6]), -1), (("send", 0, [0, 10]), -2),
            (("back", 0, []), -1), (("back", 0, [0, 5, 0, 5]), -1), (("back", 0, [0, 5, 1, 1000]), -1),
            (("back", 1, [0, 5]), -2), (("back", 0, [2, 5, 3, 5]), -3),
            (("choose", 0, 2, 1, 1), -2), (("choose", 0, 1, 3, 0), -2), (("choose", 4, 0, 1, 1), -2),
            (("release", 4), -1), (("release", LARGEST), -1),
            (("look", 2, 0), -2), (("look", 0, 10), -6), (("now", 4), -1), (("todo", 4), -1),
            (("offer", 4, 0), -1), (("offer", 0, 10), -2), (("open", 4), -1), (("changed", 0, 2), -2),
        ]:
            self.unchanged(OFFICE, refused, refusal)
            self.assertEqual(run(OFFICE + [refused] + LATER)[len(OFFICE) + 1:], later)

    def test_at_the_bounds(self):
        self.unchanged(sixty_works(), ("translate", 2, 0, 10), -5)
        one_too_many = fifty_four_works() + [("send", 1, SIX), ("translate", 2, 0, 10)]
        self.unchanged(one_too_many, ("back", 9, pairs(SIX, 501)), -5)
        self.unchanged([("text", 0, 1)] + [("send", 0, [0])] * 10, ("send", 0, [0]), -5)
        self.unchanged([("text", 0, 1)] + [("release", 0)] * 12, ("release", 0), -5)


class AfterAsking(unittest.TestCase):
    def test_each_call_that_asks(self):
        before = what_it_answers(OFFICE)
        later = run(OFFICE + LATER)[len(OFFICE):]
        for asked in ASKED:
            with self.subTest(asked=asked):
                self.assertEqual(what_it_answers(OFFICE + [asked]), before)
                self.assertEqual(run(OFFICE + [asked] + LATER)[len(OFFICE) + 1:], later)

    def test_it_was_an_office_with_something_of_everything(self):
        self.assertEqual(run(OFFICE + [("state",)])[-1], [10, 4, 1, 2, 2])
        self.assertEqual(run(OFFICE + LATER)[-1], [9, 4, 2, 0, 3])


if __name__ == "__main__":
    unittest.main()
