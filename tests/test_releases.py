"""Promise 3, of it what is said of look, now and changed; and that a release stays as it was."""

import unittest

from tests.line import LARGEST, last, run, texts


class Look(unittest.TestCase):
    def setUp(self):
        """Release 0 has key 7 translated and key 8 as its text."""
        self.released = [
            ("text", 8, 2), ("text", 7, 1), ("translate", 2, 7, 30), ("release", 2),
        ]

    def both(self, since):
        found = run(self.released + since + [("look", 0, 7), ("look", 0, 8)])
        return found[-2:]

    def test_translated_and_as_its_text(self):
        self.assertEqual(self.both([]), [[30, 1], [2, 0]])

    def test_edges_of_what_is_shown(self):
        found = run([
            ("text", 0, 1), ("text", 99, 999), ("release", 0), ("translate", 0, 0, 999),
            ("translate", 0, 99, 1), ("release", 0),
            ("look", 0, 0), ("look", 0, 99), ("look", 1, 0), ("look", 1, 99),
        ])
        self.assertEqual(found[6:], [[1, 0], [999, 0], [999, 1], [1, 1]])

    def test_a_translation_with_the_number_of_the_text(self):
        found = run([
            ("text", 7, 5), ("release", 0), ("translate", 0, 7, 5), ("release", 0),
            ("look", 0, 7), ("look", 1, 7),
        ])
        self.assertEqual(found[4:], [[5, 0], [5, 1]])

    def test_the_release_stays_as_it_was(self):
        for since in [
            [("text", 7, 3), ("text", 8, 3)],
            [("translate", 2, 7, 31), ("translate", 2, 8, 31)],
            [("translate", 2, 7, 0)],
            [("gone", 7), ("gone", 8)],
            [("gone", 7), ("gone", 8), ("text", 7, 4), ("text", 8, 4), ("text", 1, 4)],
            [("send", 2, [7, 8]), ("back", 0, [7, 32, 8, 32])],
            [("send", 2, [7]), ("translate", 2, 7, 33), ("back", 0, [7, 34]), ("choose", 2, 7, 1, 1)],
            [("translate", 2, 7, 35), ("release", 2), ("release", 1)],
        ]:
            with self.subTest(since=since):
                self.assertEqual(self.both(since), [[30, 1], [2, 0]])

    def test_each_release_by_its_number(self):
        found = run(self.released + [
            ("translate", 2, 8, 40), ("release", 2), ("text", 7, 3), ("release", 0),
            ("look", 0, 7), ("look", 1, 7), ("look", 2, 7),
            ("look", 0, 8), ("look", 1, 8), ("look", 2, 8),
        ])
        self.assertEqual(found[8:], [[30, 1], [30, 1], [3, 0], [2, 0], [40, 1], [2, 0]])

    def test_no_such_release(self):
        self.assertEqual(last([("look", 0, 0)]), [-2])
        self.assertEqual(last([("text", 7, 1), ("look", 0, 7)]), [-2])
        found = run(self.released + [("look", 1, 7), ("look", LARGEST, 7), ("look", 0, 7)])
        self.assertEqual(found[4:], [[-2], [-2], [30, 1]])

    def test_the_twelfth_release(self):
        found = run([("text", 7, 1)] + [("release", 0)] * 13 + [("look", 11, 7), ("look", 12, 7)])
        self.assertEqual(found[13:], [[-5], [1, 0], [-2]])

    def test_a_release_that_has_not_the_key(self):
        found = run(self.released + [
            ("text", 9, 1), ("translate", 2, 9, 50),
            ("look", 0, 9), ("look", 0, 0), ("look", 0, 99), ("look", 0, 100), ("look", 0, LARGEST),
        ])
        self.assertEqual(found[6:], [[-6]] * 5)

    def test_a_key_that_was_gone_at_the_release(self):
        found = run(self.released + [
            ("gone", 7), ("release", 2), ("text", 7, 1), ("look", 1, 7), ("look", 1, 8), ("look", 0, 7),
        ])
        self.assertEqual(found[7:], [[-6], [2, 0], [30, 1]])

    def test_a_release_of_nothing(self):
        self.assertEqual(last([("release", 0), ("text", 0, 1), ("look", 0, 0)]), [-6])

    def test_no_such_release_is_told_first(self):
        self.assertEqual(last(self.released + [("look", 1, 9)]), [-2])
        self.assertEqual(last(self.released + [("look", LARGEST, LARGEST)]), [-2])


class Now(unittest.TestCase):
    def test_no_keys(self):
        self.assertEqual(last([("now", 0)]), [0])
        self.assertEqual(last([("text", 7, 1), ("translate", 0, 7, 5), ("gone", 7), ("now", 0)]), [0])

    def test_rising_whatever_the_order_they_were_told_in(self):
        found = run([
            ("text", 50, 1), ("text", 99, 2), ("text", 0, 3), ("text", 7, 4),
            ("translate", 1, 99, 30), ("translate", 1, 0, 31), ("now", 1),
        ])
        self.assertEqual(found[6], [4, 0, 31, 1, 7, 4, 0, 50, 1, 0, 99, 30, 1])

    def test_ten_keys(self):
        found = last(texts(range(19, 9, -1), 6) + [("now", 3)])
        expected = [10]
        for key in range(10, 20):
            expected += [key, 6, 0]
        self.assertEqual(found, expected)

    def test_work_of_another_text_is_not_shown(self):
        found = run([
            ("text", 7, 1), ("translate", 0, 7, 5), ("text", 7, 2), ("now", 0),
            ("text", 7, 1), ("now", 0),
        ])
        self.assertEqual((found[3], found[5]), ([1, 7, 2, 0], [1, 7, 5, 1]))

    def test_work_of_another_tongue_or_key_is_not_shown(self):
        found = run([
            ("text", 7, 1), ("text", 8, 1), ("translate", 1, 7, 5), ("now", 0), ("now", 1), ("now", 2),
        ])
        self.assertEqual(found[3:], [
            [2, 7, 1, 0, 8, 1, 0], [2, 7, 5, 1, 8, 1, 0], [2, 7, 1, 0, 8, 1, 0],
        ])

    def test_a_translation_with_the_number_of_the_text(self):
        found = run([("text", 7, 5), ("now", 0), ("translate", 0, 7, 5), ("now", 0)])
        self.assertEqual((found[1], found[3]), ([1, 7, 5, 0], [1, 7, 5, 1]))

    def test_work_that_was_taken_away(self):
        found = run([("text", 7, 1), ("translate", 0, 7, 5), ("translate", 0, 7, 0), ("now", 0)])
        self.assertEqual(found[3], [1, 7, 1, 0])

    def test_what_is_open_is_not_shown(self):
        found = run([
            ("text", 7, 1), ("send", 0, [7]), ("translate", 0, 7, 5), ("back", 0, [7, 6]), ("now", 0),
            ("choose", 0, 7, 1, 1), ("now", 0),
        ])
        self.assertEqual((found[4], found[6]), ([1, 7, 5, 1], [1, 7, 6, 1]))

    def test_tongue_edges(self):
        found = run([
            ("text", 7, 1), ("translate", 3, 7, 5), ("now", 3), ("now", 4), ("now", LARGEST), ("now", 0),
        ])
        self.assertEqual(found[2:], [[1, 7, 5, 1], [-1], [-1], [1, 7, 1, 0]])
        self.assertEqual(last([("now", 4)]), [-1])

    def test_it_is_what_a_release_shows_then(self):
        found = run([
            ("text", 8, 2), ("text", 7, 1), ("translate", 0, 7, 5), ("now", 0), ("release", 0),
            ("look", 0, 7), ("look", 0, 8),
        ])
        self.assertEqual(found[3:], [[2, 7, 5, 1, 8, 2, 0], [0, 2, 1], [5, 1], [2, 0]])


class Changed(unittest.TestCase):
    def test_a_release_against_itself(self):
        found = run([
            ("text", 8, 2), ("text", 7, 1), ("translate", 0, 7, 5), ("release", 0), ("changed", 0, 0),
            ("text", 7, 3), ("gone", 8), ("changed", 0, 0), ("release", 0), ("changed", 1, 1),
        ])
        self.assertEqual((found[4], found[7], found[9]), ([0], [0], [0]))

    def test_two_alike(self):
        found = run([
            ("text", 8, 2), ("text", 7, 1), ("translate", 0, 7, 5), ("release", 0),
            ("gone", 7), ("text", 7, 1), ("release", 0), ("changed", 0, 1), ("changed", 1, 0),
        ])
        self.assertEqual(found[7:], [[0], [0]])

    def test_releases_of_nothing(self):
        found = run([("release", 0), ("release", 1), ("changed", 0, 1), ("changed", 0, 0)])
        self.assertEqual(found[2:], [[0], [0]])

    def test_another_number(self):
        found = run([
            ("text", 8, 2), ("text", 7, 1), ("text", 6, 3), ("translate", 0, 7, 5), ("release", 0),
            ("translate", 0, 7, 6), ("text", 8, 4), ("release", 0), ("changed", 0, 1), ("changed", 1, 0),
        ])
        self.assertEqual(found[8:], [[2, 7, 8], [2, 7, 8]])

    def test_the_same_number_as_a_translation_and_as_the_text(self):
        found = run([
            ("text", 7, 5), ("text", 8, 5), ("release", 0), ("translate", 0, 7, 5), ("release", 0),
            ("changed", 0, 1), ("changed", 1, 0), ("changed", 1, 1),
        ])
        self.assertEqual(found[5:], [[1, 7], [1, 7], [0]])

    def test_the_same_number_as_the_text_and_as_work_of_another(self):
        found = run([
            ("text", 7, 5), ("release", 0), ("text", 7, 6), ("translate", 0, 7, 5), ("release", 0),
            ("changed", 0, 1),
        ])
        self.assertEqual(found[5], [1, 7])

    def test_the_same_number_as_work_of_two_texts_is_not_changed(self):
        found = run([
            ("text", 7, 5), ("translate", 0, 7, 9), ("release", 0),
            ("text", 7, 6), ("translate", 0, 7, 9), ("release", 0), ("changed", 0, 1),
        ])
        self.assertEqual(found[6], [0])

    def test_a_key_in_just_one(self):
        found = run([
            ("text", 7, 1), ("release", 0), ("text", 3, 1), ("release", 0),
            ("changed", 0, 1), ("changed", 1, 0),
        ])
        self.assertEqual(found[4:], [[1, 3], [1, 3]])

    def test_nothing_in_the_one(self):
        found = run([
            ("release", 0), ("text", 9, 1), ("text", 0, 1), ("release", 0),
            ("changed", 0, 1), ("changed", 1, 0),
        ])
        self.assertEqual(found[4:], [[2, 0, 9], [2, 0, 9]])

    def test_those_of_the_first_then_those_of_the_second_alone(self):
        found = run([
            ("text", 90, 1), ("text", 40, 1), ("text", 50, 1), ("text", 60, 1), ("release", 0),
            ("gone", 90), ("gone", 40), ("text", 60, 2), ("text", 45, 1), ("text", 99, 1), ("text", 5, 1),
            ("release", 0), ("changed", 0, 1), ("changed", 1, 0),
        ])
        self.assertEqual(found[12:], [
            [6, 40, 60, 90, 5, 45, 99], [6, 5, 45, 60, 99, 40, 90],
        ])

    def test_in_different_tongues(self):
        found = run([
            ("text", 7, 1), ("text", 8, 1), ("text", 9, 1), ("translate", 0, 7, 5), ("translate", 1, 7, 5),
            ("translate", 0, 8, 5), ("translate", 1, 8, 6), ("translate", 1, 9, 5),
            ("release", 0), ("release", 1), ("changed", 0, 1), ("changed", 1, 0),
        ])
        self.assertEqual(found[10:], [[2, 8, 9], [2, 8, 9]])

    def test_no_such_release(self):
        found = run([
            ("text", 7, 1), ("changed", 0, 0), ("release", 0), ("changed", 1, 0), ("changed", 0, 1),
            ("changed", 1, 1), ("changed", LARGEST, 0), ("changed", 0, LARGEST),
            ("changed", LARGEST, LARGEST), ("changed", 1, LARGEST), ("changed", 0, 0),
        ])
        self.assertEqual(found[1:], [[-2], [0, 1, 0], [-2], [-2], [-2], [-2], [-2], [-2], [-2], [0]])

    def test_the_twelfth_release(self):
        found = run([("release", 0)] + [("text", 7, 1)] + [("release", 0)] * 12 + [
            ("changed", 0, 11), ("changed", 11, 0), ("changed", 0, 12), ("changed", 12, 11),
        ])
        self.assertEqual(found[13:], [[-5], [1, 7], [1, 7], [-2], [-2]])

    def test_changes_since_do_not_count(self):
        found = run([
            ("text", 7, 1), ("release", 0), ("text", 7, 2), ("release", 0), ("text", 7, 1),
            ("translate", 0, 7, 5), ("text", 8, 1), ("changed", 0, 1), ("gone", 7), ("changed", 0, 1),
        ])
        self.assertEqual((found[7], found[9]), ([1, 7], [1, 7]))


if __name__ == "__main__":
    unittest.main()
