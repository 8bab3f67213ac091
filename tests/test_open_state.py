"""What is open and its order, and how it stands: the calls open and state."""

import unittest

from tests.line import LARGEST, last, run, sixty_works


class Open(unittest.TestCase):
    def three_open(self):
        """Eleven calls; keys 3, 1, 2 came to be open in that order, ours 5 and theirs 6."""
        return [
            ("text", 1, 10), ("text", 2, 20), ("text", 3, 30),
            ("send", 0, [1, 2, 3]), ("send", 0, [1, 2, 3]), ("send", 1, [1, 2, 3]),
            ("translate", 0, 1, 5), ("translate", 0, 2, 5), ("translate", 0, 3, 5),
            ("back", 0, [3, 6, 1, 6]), ("back", 0, [2, 6]),
        ]

    def after(self, since):
        return last(self.three_open() + since + [("open", 0)])

    def test_none(self):
        self.assertEqual(last([("open", 0)]), [0])
        self.assertEqual(last([("text", 7, 1), ("send", 0, [7]), ("back", 0, [7, 5]), ("open", 0)]), [0])

    def test_one(self):
        found = run([
            ("text", 99, 999), ("send", 2, [99]), ("translate", 2, 99, 1), ("back", 0, [99, 999]), ("open", 2),
        ])
        self.assertEqual(found[4], [1, 99, 999, 999, 1])

    def test_in_the_order_in_which_they_came_to_be_open(self):
        self.assertEqual(self.after([]), [3, 3, 30, 6, 5, 1, 10, 6, 5, 2, 20, 6, 5])

    def test_one_instead_of_an_elder_one_stands_last(self):
        self.assertEqual(self.after([("back", 1, [3, 7])]), [3, 1, 10, 6, 5, 2, 20, 6, 5, 3, 30, 7, 5])
        self.assertEqual(self.after([("back", 1, [1, 7, 3, 8])]), [3, 2, 20, 6, 5, 1, 10, 7, 5, 3, 30, 8, 5])
        self.assertEqual(self.after([("back", 0, [3, 7])]), [3, 1, 10, 6, 5, 2, 20, 6, 5, 3, 30, 7, 5])

    def test_the_same_once_more_by_another_package_stands_last(self):
        self.assertEqual(self.after([("back", 1, [3, 6])]), [3, 1, 10, 6, 5, 2, 20, 6, 5, 3, 30, 6, 5])

    def test_what_comes_back_as_its_base_leaves_it(self):
        self.assertEqual(self.after([("back", 0, [3, 6])]), self.after([]))
        self.assertEqual(self.after([("back", 1, [3, 0])]), self.after([]))

    def test_closed_by_what_is_there_already(self):
        self.assertEqual(self.after([("back", 0, [1, 5])]), [2, 3, 30, 6, 5, 2, 20, 6, 5])

    def test_closed_by_what_is_taken(self):
        taken = [("translate", 0, 1, 6), ("back", 0, [1, 7])]
        self.assertEqual(last(self.three_open() + taken), [1, 2])
        self.assertEqual(self.after(taken), [2, 3, 30, 6, 5, 2, 20, 6, 5])

    def test_closed_by_choose(self):
        for theirs in (0, 1):
            self.assertEqual(self.after([("choose", 0, 1, 10, theirs)]), [2, 3, 30, 6, 5, 2, 20, 6, 5])

    def test_closed_and_open_again_stands_last(self):
        self.assertEqual(self.after([("choose", 0, 3, 30, 0), ("back", 1, [3, 8])]), [
            3, 1, 10, 6, 5, 2, 20, 6, 5, 3, 30, 8, 5,
        ])

    def test_the_work_as_it_is_now(self):
        self.assertEqual(self.after([("translate", 0, 3, 9), ("translate", 0, 1, 0), ("translate", 0, 2, 6)]), [
            3, 3, 30, 6, 9, 1, 10, 6, 0, 2, 20, 6, 6,
        ])

    def test_theirs_is_none(self):
        found = run([
            ("text", 7, 1), ("translate", 0, 7, 4), ("send", 0, [7]), ("translate", 0, 7, 5),
            ("back", 0, [7, 0]), ("open", 0), ("translate", 0, 7, 0), ("open", 0),
        ])
        self.assertEqual((found[5], found[7]), ([1, 7, 1, 0, 5], [1, 7, 1, 0, 0]))

    def test_just_of_this_tongue(self):
        other = [("translate", 1, 2, 7), ("back", 2, [2, 8])]
        found = run(self.three_open() + other + [("open", 0), ("open", 1), ("open", 2), ("state",)])
        self.assertEqual(found[13:], [
            [3, 3, 30, 6, 5, 1, 10, 6, 5, 2, 20, 6, 5], [1, 2, 20, 8, 7], [0], [3, 4, 3, 4, 0],
        ])

    def test_the_text_changed_since_it_was_sent(self):
        self.assertEqual(self.after([("text", 3, 31), ("translate", 0, 3, 9)]), self.after([]))
        found = run([
            ("text", 7, 1), ("send", 0, [7]), ("translate", 0, 7, 5), ("text", 7, 2), ("back", 0, [7, 6]),
            ("open", 0),
        ])
        self.assertEqual(found[5], [1, 7, 1, 6, 5])

    def test_the_key_is_gone_since_it_was_sent(self):
        self.assertEqual(self.after([("gone", 3), ("gone", 1)]), self.after([]))
        found = run([
            ("text", 7, 1), ("send", 0, [7]), ("translate", 0, 7, 5), ("gone", 7), ("back", 0, [7, 6]),
            ("open", 0),
        ])
        self.assertEqual(found[5], [1, 7, 1, 6, 5])

    def test_one_key_with_two_texts(self):
        found = run([
            ("text", 7, 2), ("send", 0, [7]), ("translate", 0, 7, 5),
            ("text", 7, 1), ("send", 0, [7]), ("translate", 0, 7, 6),
            ("back", 0, [7, 8]), ("back", 1, [7, 9]), ("open", 0), ("choose", 0, 7, 2, 1), ("open", 0),
        ])
        self.assertEqual((found[8], found[10]), ([2, 7, 2, 8, 5, 7, 1, 9, 6], [1, 7, 1, 9, 6]))

    def test_a_refused_back_or_choose_leaves_it(self):
        for refused in [
            ("back", 1, [3, 7, 4, 7]), ("back", 1, [3, 7, 1, 1000]), ("back", 3, [3, 7]), ("back", 1, [3, 7, 3, 7]),
            ("choose", 0, 3, 31, 1), ("choose", 1, 3, 30, 1),
        ]:
            with self.subTest(refused=refused):
                self.assertLess(last(self.three_open() + [refused])[0], 0)
                self.assertEqual(self.after([refused]), self.after([]))

    def test_tongue_edges(self):
        found = run([
            ("text", 7, 1), ("send", 3, [7]), ("translate", 3, 7, 5), ("back", 0, [7, 6]),
            ("open", 3), ("open", 4), ("open", LARGEST), ("open", 0),
        ])
        self.assertEqual(found[4:], [[1, 7, 1, 6, 5], [-1], [-1], [0]])
        self.assertEqual(last([("open", 4)]), [-1])


class State(unittest.TestCase):
    def test_at_the_beginning(self):
        self.assertEqual(run([("state",), ("state",)]), [[0, 0, 0, 0, 0]] * 2)

    def test_after_calls_of_every_kind(self):
        calls = [
            ("text", 7, 1), ("text", 8, 2), ("translate", 0, 7, 5), ("send", 0, [7, 8]),
            ("translate", 0, 7, 6), ("back", 0, [7, 9, 8, 10]), ("release", 0),
            ("look", 0, 7), ("now", 0), ("todo", 0), ("offer", 0, 7), ("open", 0), ("changed", 0, 0),
            ("choose", 0, 7, 1, 1), ("gone", 8), ("text", 100, 1), ("release", 4),
        ]
        stood = [last(calls[:length] + [("state",)]) for length in range(1, len(calls) + 1)]
        self.assertEqual(stood, [
            [1, 0, 0, 0, 0], [2, 0, 0, 0, 0], [2, 1, 0, 0, 0], [2, 1, 1, 0, 0],
            [2, 1, 1, 0, 0], [2, 2, 1, 1, 0], [2, 2, 1, 1, 1],
            [2, 2, 1, 1, 1], [2, 2, 1, 1, 1], [2, 2, 1, 1, 1], [2, 2, 1, 1, 1], [2, 2, 1, 1, 1], [2, 2, 1, 1, 1],
            [2, 2, 1, 0, 1], [1, 2, 1, 0, 1], [1, 2, 1, 0, 1], [1, 2, 1, 0, 1],
        ])

    def test_the_same_as_the_answer_of_the_call_ahead_of_it(self):
        calls = [
            ("text", 7, 1), ("state",), ("translate", 0, 7, 5), ("state",), ("send", 0, [7]),
            ("translate", 0, 7, 6), ("state",), ("back", 0, [7, 8]), ("choose", 0, 7, 1, 1), ("state",),
            ("gone", 7), ("state",),
        ]
        found = run(calls)
        for at, call in enumerate(calls):
            if call == ("state",):
                self.assertEqual(found[at], found[at - 1])
        self.assertEqual(found[-1], [0, 1, 1, 0, 0])

    def test_at_the_bounds(self):
        self.assertEqual(last(sixty_works() + [("state",)]), [6, 60, 10, 0, 0])
        keys = [("text", key, 1) for key in range(10)]
        self.assertEqual(last(keys + [("release", 0)] * 12 + [("state",)]), [10, 0, 0, 0, 12])


if __name__ == "__main__":
    unittest.main()
