"""Promise 3, of it what is said of choose and release."""

import unittest

from tests.line import LARGEST, SIX, fifty_four_works, last, pairs, run, texts
from tongueoffice.records import Records


def left_open(base, ours, theirs):
    """Five calls; then theirs is open of tongue 2, key 7, text 1."""
    return [
        ("text", 7, 1), ("translate", 2, 7, base), ("send", 2, [7]),
        ("translate", 2, 7, ours), ("back", 0, [7, theirs]),
    ]


class Choose(unittest.TestCase):
    def test_theirs(self):
        found = run(left_open(0, 5, 6) + [
            ("choose", 2, 7, 1, 1), ("send", 2, [7]), ("back", 1, [7, 6]),
        ])
        self.assertEqual(found[4:], [[0, 3], [1, 1, 1, 0, 0], [1], [0, 1]])

    def test_ours(self):
        found = run(left_open(0, 5, 6) + [
            ("choose", 2, 7, 1, 0), ("send", 2, [7]), ("back", 1, [7, 5]),
        ])
        self.assertEqual(found[4:], [[0, 3], [1, 1, 1, 0, 0], [1], [0, 1]])

    def test_it_is_closed_then(self):
        for theirs in (0, 1):
            found = run(left_open(0, 5, 6) + [
                ("choose", 2, 7, 1, theirs), ("choose", 2, 7, 1, 1), ("choose", 2, 7, 1, 0),
            ])
            self.assertEqual(found[5:], [[1, 1, 1, 0, 0], [-2], [-2]])

    def test_what_is_not_open(self):
        for wrong in [
            (1, 7, 1), (3, 7, 1), (4, 7, 1), (LARGEST, 7, 1), (2, 8, 1), (2, LARGEST, 1),
            (2, 7, 0), (2, 7, 2), (2, 7, LARGEST),
        ]:
            for theirs in (0, 1):
                with self.subTest(wrong=wrong, theirs=theirs):
                    found = run(left_open(0, 5, 6) + [
                        ("choose", *wrong, theirs), ("text", 7, 1), ("send", 2, [7]),
                        ("back", 1, [7, 5]), ("choose", 2, 7, 1, 1),
                    ])
                    self.assertEqual(found[5:], [
                        [-2], [1, 1, 1, 1, 0], [1], [0, 1], [1, 1, 2, 0, 0],
                    ])
        self.assertEqual(last([("choose", 0, 0, 0, 1)]), [-2])

    def test_theirs_is_none(self):
        found = run(left_open(4, 5, 0) + [("choose", 2, 7, 1, 1), ("release", 2)])
        self.assertEqual(found[4:], [[0, 3], [1, 0, 1, 0, 0], [0, 1, 0]])
        found = run(left_open(4, 5, 0) + [("choose", 2, 7, 1, 0), ("release", 2)])
        self.assertEqual(found[4:], [[0, 3], [1, 1, 1, 0, 0], [0, 1, 1]])

    def test_ours_is_none(self):
        found = run(left_open(4, 0, 5) + [("choose", 2, 7, 1, 1), ("release", 2)])
        self.assertEqual(found[4:], [[0, 3], [1, 1, 1, 0, 0], [0, 1, 1]])
        found = run(left_open(4, 0, 5) + [("choose", 2, 7, 1, 0), ("release", 2)])
        self.assertEqual(found[4:], [[0, 3], [1, 0, 1, 0, 0], [0, 1, 0]])

    def test_while_the_source_has_another_text_or_not_the_key(self):
        for away in [("text", 7, 2), ("gone", 7)]:
            found = run(left_open(4, 0, 5) + [
                away, ("choose", 2, 7, 1, 1), ("text", 7, 1), ("release", 2),
            ])
            self.assertEqual(found[6][1:], [1, 1, 0, 0])
            self.assertEqual(found[7:], [[1, 1, 1, 0, 0], [0, 1, 1]])

    def test_the_base_of_the_package_stays(self):
        found = run(left_open(0, 5, 6) + [("choose", 2, 7, 1, 0), ("back", 0, [7, 6])])
        self.assertEqual(found[5:], [[1, 1, 1, 0, 0], [0, 1]])


class ChooseAtSixty(unittest.TestCase):
    def test_of_a_place_that_has_work(self):
        full = fifty_four_works() + [
            ("send", 1, SIX), ("translate", 1, 0, 10), ("back", 9, pairs(SIX, 500)),
        ]
        self.assertEqual(last(full), [5, 3, 2, 2, 2, 2, 2])
        self.assertEqual(last(full + [("choose", 1, 0, 3, 1)]), [6, 60, 10, 0, 0])
        self.assertEqual(last(full + [("choose", 1, 0, 3, 0)]), [6, 60, 10, 0, 0])
        self.assertEqual(last(full + [("choose", 1, 1, 3, 1)]), [-2])


class ChooseBeyondALine(unittest.TestCase):
    """No line of 40 calls chooses at 60 works what has no work: the records are asked."""

    def office(self, base, ours, theirs):
        """60 works, and theirs open of tongue 3, key 9, text 1, which key 9 hasn't now."""
        records = Records()
        for key in range(10):
            records.set_text(key, 1)
        records.set_translation(3, 9, base)
        records.send_package(3, [9])
        records.set_translation(3, 9, ours)
        self.assertEqual(records.take_back(0, [(9, theirs)]), [0, 3])
        records.set_text(9, 2)
        for text in (3, 4):
            for tongue in range(4):
                for key in range(8):
                    records.set_text(key, text)
                    if records.how_it_stands()[1] < 60:
                        records.set_translation(tongue, key, 500)
        self.assertEqual(records.how_it_stands(), [10, 60, 1, 1, 0])
        return records

    def test_one_more_work_is_refused(self):
        records = self.office(4, 0, 5)
        self.assertEqual(records.choose_one((3, 9, 1), 1), [-5])
        self.assertEqual(records.how_it_stands(), [10, 60, 1, 1, 0])
        self.assertEqual(records.set_text(9, 1), [10, 60, 1, 1, 0])
        self.assertEqual(records.work_at((3, 9, 1)), 0)
        self.assertEqual(records.add_release(3), [0, 10, 4])
        self.assertEqual(records.choose_one((3, 9, 1), 0), [10, 60, 1, 0, 1])

    def test_what_is_not_open_is_told_first(self):
        self.assertEqual(self.office(4, 0, 5).choose_one((3, 9, 2), 1), [-2])

    def test_ours_is_not_one_more(self):
        self.assertEqual(self.office(4, 0, 5).choose_one((3, 9, 1), 0), [10, 60, 1, 0, 0])

    def test_another_translation_is_not_one_more(self):
        records = self.office(0, 5, 6)
        self.assertEqual(records.choose_one((3, 9, 1), 1), [10, 60, 1, 0, 0])
        self.assertEqual(records.work_at((3, 9, 1)), 6)

    def test_none_is_one_less(self):
        self.assertEqual(self.office(4, 5, 0).choose_one((3, 9, 1), 1), [10, 59, 1, 0, 0])


class Release(unittest.TestCase):
    def test_tongue_edges(self):
        found = run([
            ("text", 7, 1), ("release", 0), ("release", 3), ("release", 4), ("release", LARGEST),
            ("release", 3), ("text", 7, 1),
        ])
        self.assertEqual(found[1:], [
            [0, 1, 0], [1, 1, 0], [-1], [-1], [2, 1, 0], [1, 0, 0, 0, 3],
        ])

    def test_of_nothing(self):
        self.assertEqual(run([("release", 0)]), [[0, 0, 0]])

    def test_its_counts(self):
        found = run(texts(range(10), 1) + [
            ("translate", 1, 0, 5), ("translate", 1, 9, 5), ("translate", 1, 4, 1),
            ("translate", 2, 3, 5), ("release", 0), ("release", 1), ("release", 2),
            ("text", 4, 2), ("release", 1), ("gone", 0), ("release", 1),
        ])
        self.assertEqual(found[14:17], [[0, 10, 0], [1, 10, 3], [2, 10, 1]])
        self.assertEqual(found[18], [3, 10, 2])
        self.assertEqual(found[20], [4, 9, 1])

    def test_a_translation_with_the_number_of_the_text_counts(self):
        self.assertEqual(last([("text", 7, 5), ("translate", 0, 7, 5), ("release", 0)]), [0, 1, 1])

    def test_twelfth_and_thirteenth(self):
        found = run([("release", 0)] * 13 + [("text", 7, 1), ("release", 3)])
        self.assertEqual(found, [[number, 0, 0] for number in range(12)] + [
            [-5], [1, 0, 0, 0, 12], [-5],
        ])

    def test_the_refusal_told_first(self):
        self.assertEqual(last([("release", 0)] * 12 + [("release", 4)]), [-1])


if __name__ == "__main__":
    unittest.main()
