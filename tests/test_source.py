"""Promise 1: text, gone, translate."""

import unittest

from tests.line import LARGEST, SIX, last, run, sixty_works, texts


class Text(unittest.TestCase):
    def test_key_edges(self):
        self.assertEqual(last([("text", 0, 5)]), [1, 0, 0, 0, 0])
        self.assertEqual(last([("text", 99, 5)]), [1, 0, 0, 0, 0])
        self.assertEqual(last([("text", 100, 5)]), [-1])
        self.assertEqual(last([("text", LARGEST, 5)]), [-1])

    def test_text_edges(self):
        self.assertEqual(last([("text", 7, 0)]), [-1])
        self.assertEqual(last([("text", 7, 1)]), [1, 0, 0, 0, 0])
        self.assertEqual(last([("text", 7, 999)]), [1, 0, 0, 0, 0])
        self.assertEqual(last([("text", 7, 1000)]), [-1])
        self.assertEqual(last([("text", 7, LARGEST)]), [-1])
        self.assertEqual(last([("text", LARGEST, LARGEST)]), [-1])

    def test_a_new_text_for_a_key_that_is_there(self):
        found = run([
            ("text", 7, 1), ("translate", 0, 7, 10), ("release", 0),
            ("text", 7, 2), ("release", 0),
        ])
        self.assertEqual(found[2:], [[0, 1, 1], [1, 1, 0, 0, 1], [1, 1, 0]])

    def test_tenth_and_eleventh_key(self):
        found = run(texts(range(9), 1) + [
            ("text", 9, 1), ("text", 10, 1), ("text", 99, 1), ("text", 9, 2), ("text", 0, 2),
            ("gone", 3), ("text", 10, 1), ("text", 3, 1),
        ])
        self.assertEqual(found[9:], [
            [10, 0, 0, 0, 0], [-5], [-5], [10, 0, 0, 0, 0], [10, 0, 0, 0, 0],
            [9, 0, 0, 0, 0], [10, 0, 0, 0, 0], [-5],
        ])

    def test_the_refusal_told_first(self):
        ten = texts(range(10), 1)
        self.assertEqual(last(ten + [("text", 10, 0)]), [-1])
        self.assertEqual(last(ten + [("text", 100, 1)]), [-1])

    def test_a_refused_text_changes_nothing(self):
        found = run([
            ("text", 7, 1), ("translate", 0, 7, 10),
            ("text", 7, 0), ("text", 7, 1000), ("text", 100, 1), ("release", 0),
            ("gone", 100), ("gone", 7),
        ])
        self.assertEqual(found[2:], [[-1], [-1], [-1], [0, 1, 1], [-2], [0, 1, 0, 0, 1]])


class Gone(unittest.TestCase):
    def test_a_key_that_is_there(self):
        found = run([("text", 7, 1), ("text", 8, 1), ("gone", 7), ("gone", 8)])
        self.assertEqual(found[2:], [[1, 0, 0, 0, 0], [0, 0, 0, 0, 0]])

    def test_a_key_that_is_not_there(self):
        found = run([
            ("gone", 7), ("text", 7, 1), ("gone", 8), ("gone", 100), ("gone", LARGEST),
            ("gone", 7), ("gone", 7), ("text", 0, 1),
        ])
        self.assertEqual(found, [
            [-2], [1, 0, 0, 0, 0], [-2], [-2], [-2], [0, 0, 0, 0, 0], [-2], [1, 0, 0, 0, 0],
        ])


class Translate(unittest.TestCase):
    def test_tongue_edges(self):
        found = run([
            ("text", 7, 1), ("translate", 0, 7, 10), ("translate", 3, 7, 10),
            ("translate", 4, 7, 10), ("translate", LARGEST, 7, 10), ("translate", 3, 7, 11),
        ])
        self.assertEqual(found[1:], [
            [1, 1, 0, 0, 0], [1, 2, 0, 0, 0], [-1], [-1], [1, 2, 0, 0, 0],
        ])

    def test_translation_edges(self):
        found = run([
            ("text", 7, 1), ("translate", 0, 7, 0), ("translate", 0, 7, 1),
            ("translate", 0, 7, 999), ("translate", 0, 7, 1000), ("translate", 0, 7, LARGEST),
            ("release", 0), ("translate", 0, 7, 0), ("release", 0), ("translate", 0, 7, 0),
        ])
        self.assertEqual(found[1:], [
            [1, 0, 0, 0, 0], [1, 1, 0, 0, 0], [1, 1, 0, 0, 0], [-1], [-1],
            [0, 1, 1], [1, 0, 0, 0, 1], [1, 1, 0], [1, 0, 0, 0, 2],
        ])

    def test_a_key_that_is_not_there(self):
        found = run([
            ("translate", 0, 7, 10), ("text", 7, 1), ("translate", 0, 8, 10),
            ("translate", 0, 8, 0), ("translate", 0, 100, 10), ("translate", 0, LARGEST, 10),
            ("gone", 7), ("translate", 0, 7, 10), ("text", 7, 1),
        ])
        self.assertEqual(found, [
            [-2], [1, 0, 0, 0, 0], [-2], [-2], [-2], [-2], [0, 0, 0, 0, 0], [-2], [1, 0, 0, 0, 0],
        ])

    def test_work_is_of_one_tongue(self):
        found = run([
            ("text", 7, 1), ("translate", 1, 7, 10), ("release", 0), ("release", 1),
        ])
        self.assertEqual(found[2:], [[0, 1, 0], [1, 1, 1]])

    def test_sixtieth_and_sixty_first_work(self):
        found = run(sixty_works() + [("translate", 2, 0, 10), ("translate", 0, 0, 11)])
        self.assertEqual(found[37], [6, 2, 2, 2, 2, 2, 2])
        self.assertEqual(found[38:], [[-5], [6, 60, 10, 0, 0]])

    def test_every_translation_counts_towards_sixty(self):
        found = run(sixty_works() + [("translate", 2, 0, 1), ("translate", 2, 0, 999)])
        self.assertEqual(found[38:], [[-5], [-5]])

    def test_none_at_sixty(self):
        found = run(sixty_works() + [("translate", 2, 0, 0), ("translate", 1, 0, 0)])
        self.assertEqual(found[38:], [[6, 60, 10, 0, 0], [6, 59, 10, 0, 0]])

    def test_room_again_below_sixty(self):
        found = run(sixty_works() + [("translate", 1, 0, 0), ("translate", 2, 0, 10)])
        self.assertEqual(found[38:], [[6, 59, 10, 0, 0], [6, 60, 10, 0, 0]])

    def test_the_refusal_told_first(self):
        self.assertEqual(last([("translate", 4, 7, 10)]), [-1])
        self.assertEqual(last([("translate", 0, 7, 1000)]), [-1])
        self.assertEqual(last(sixty_works() + [("translate", 0, 6, 10)]), [-2])
        self.assertEqual(last(sixty_works() + [("translate", 4, 0, 10)]), [-1])
        self.assertEqual(last(sixty_works() + [("translate", 2, 0, 1000)]), [-1])

    def test_a_refused_work_is_not_there(self):
        found = run(sixty_works() + [("translate", 2, 0, 10), ("release", 2)])
        self.assertEqual(found[38:], [[-5], [0, 6, 0]])


class WorkStays(unittest.TestCase):
    def test_while_the_source_has_another_text(self):
        found = run([
            ("text", 7, 1), ("translate", 0, 7, 10), ("text", 7, 2), ("release", 0),
            ("translate", 0, 7, 20), ("text", 7, 1), ("release", 0),
            ("translate", 0, 7, 0), ("text", 7, 2), ("release", 0),
        ])
        self.assertEqual(found[1:], [
            [1, 1, 0, 0, 0], [1, 1, 0, 0, 0], [0, 1, 0],
            [1, 2, 0, 0, 1], [1, 2, 0, 0, 1], [1, 1, 1],
            [1, 1, 0, 0, 2], [1, 1, 0, 0, 2], [2, 1, 1],
        ])

    def test_while_the_source_has_not_the_key(self):
        found = run([
            ("text", 7, 1), ("translate", 0, 7, 10), ("gone", 7), ("release", 0),
            ("text", 7, 2), ("release", 0), ("text", 7, 1), ("release", 0),
        ])
        self.assertEqual(found[1:], [
            [1, 1, 0, 0, 0], [0, 1, 0, 0, 0], [0, 0, 0],
            [1, 1, 0, 0, 1], [1, 1, 0], [1, 1, 0, 0, 2], [2, 1, 1],
        ])

    def test_another_key_with_that_text_is_not_translated_by_it(self):
        found = run([
            ("text", 7, 1), ("translate", 0, 7, 10), ("text", 8, 1), ("release", 0),
        ])
        self.assertEqual(found[3], [0, 2, 1])

    def test_work_of_older_texts_counts_towards_sixty(self):
        found = run(sixty_works() + [("text", 0, 4), ("translate", 0, 0, 10)])
        self.assertEqual(found[38:], [[6, 60, 10, 0, 0], [-5]])

    def test_the_works_of_every_text_are_there(self):
        found = run(sixty_works() + [("release", 1), ("release", 3)])
        self.assertEqual(found[38:], [[0, len(SIX), 6], [1, len(SIX), 0]])


if __name__ == "__main__":
    unittest.main()
