"""Promise 2: send, back."""

import unittest

from tests.line import LARGEST, SIX, fifty_four_works, last, pairs, run, sixty_works, texts
from tongueoffice.records import Records


class Send(unittest.TestCase):
    def test_tongue_edges(self):
        found = run([
            ("text", 7, 1), ("send", 0, [7]), ("send", 3, [7]), ("send", 4, [7]),
            ("send", LARGEST, [7]), ("send", 3, [7]), ("text", 7, 1),
        ])
        self.assertEqual(found[1:], [[0], [1], [-1], [-1], [2], [1, 0, 3, 0, 0]])

    def test_how_many_keys(self):
        found = run(texts(range(10), 1) + [
            ("send", 0, []), ("send", 0, [9]), ("send", 0, [9, 0, 8, 1, 7, 2]),
            ("send", 0, [0, 1, 2, 3, 4, 5, 6]), ("send", 0, list(range(10))), ("gone", 0),
        ])
        self.assertEqual(found[10:], [[-1], [0], [1], [-1], [-1], [9, 0, 2, 0, 0]])

    def test_one_twice(self):
        found = run(texts(SIX, 1) + [
            ("send", 0, [3, 3]), ("send", 0, [0, 1, 2, 3, 4, 0]), ("send", 0, [0, 1]),
        ])
        self.assertEqual(found[6:], [[-1], [-1], [0]])

    def test_a_key_that_is_not_there(self):
        found = run([
            ("send", 0, [7]), ("text", 7, 1), ("send", 0, [7, 8]), ("send", 0, [8, 7]),
            ("send", 0, [100]), ("send", 0, [LARGEST]), ("gone", 7), ("send", 0, [7]),
            ("text", 7, 2), ("send", 0, [7]),
        ])
        self.assertEqual(found, [
            [-2], [1, 0, 0, 0, 0], [-2], [-2], [-2], [-2], [0, 0, 0, 0, 0], [-2],
            [1, 0, 0, 0, 0], [0],
        ])

    def test_tenth_and_eleventh_package(self):
        found = run([("text", 7, 1)] + [("send", 0, [7])] * 11 + [("text", 7, 1)])
        self.assertEqual(found[1:], [[number] for number in range(10)] + [[-5], [1, 0, 10, 0, 0]])

    def test_packages_that_came_back_still_count(self):
        calls = [("text", 7, 1)] + [("send", 0, [7])] * 10 + [("back", 0, [7, 10])]
        self.assertEqual(last(calls + [("send", 0, [7])]), [-5])

    def test_the_refusal_told_first(self):
        ten = [("text", 7, 1)] + [("send", 0, [7])] * 10
        self.assertEqual(last([("send", 4, [8])]), [-1])
        self.assertEqual(last([("send", 0, [8, 8])]), [-1])
        self.assertEqual(last([("send", 0, [0, 1, 2, 3, 4, 5, 6])]), [-1])
        self.assertEqual(last(ten + [("send", 4, [7])]), [-1])
        self.assertEqual(last(ten + [("send", 0, [])]), [-1])
        self.assertEqual(last(ten + [("send", 0, [8])]), [-2])


class BackRefused(unittest.TestCase):
    def setUp(self):
        self.sent = texts(range(10), 1) + [("send", 0, SIX)]

    def after(self, refused, refusal):
        """The refusal comes, and the package comes back as if nothing had been."""
        found = run(self.sent + [refused, ("back", 0, [0, 10, 5, 50]), ("text", 0, 1)])
        self.assertEqual(found[11:], [[refusal], [2, 2, 2], [10, 2, 1, 0, 0]])

    def test_how_many_pairs(self):
        self.after(("back", 0, []), -1)
        self.after(("back", 0, pairs(range(7), 9)), -1)
        self.after(("back", 0, pairs(range(10), 9)), -1)
        self.assertEqual(last(self.sent + [("back", 0, [3, 9])]), [1, 2])
        self.assertEqual(last(self.sent + [("back", 0, pairs(SIX, 9))]), [6, 2, 2, 2, 2, 2, 2])

    def test_one_key_twice(self):
        self.after(("back", 0, [0, 9, 0, 9]), -1)
        self.after(("back", 0, [0, 9, 1, 9, 0, 8]), -1)

    def test_translation_edges(self):
        self.after(("back", 0, [0, 1000]), -1)
        self.after(("back", 0, [0, 9, 1, 1000]), -1)
        self.after(("back", 0, [0, LARGEST]), -1)
        self.assertEqual(last(self.sent + [("back", 0, [0, 999, 1, 1])]), [2, 2, 2])

    def test_no_such_package(self):
        self.after(("back", 1, [0, 9]), -2)
        self.after(("back", LARGEST, [0, 9]), -2)
        self.assertEqual(last([("back", 0, [0, 9])]), [-2])

    def test_a_key_that_is_not_in_it(self):
        self.after(("back", 0, [6, 9]), -3)
        self.after(("back", 0, [0, 9, 6, 9]), -3)
        self.after(("back", 0, [6, 9, 0, 9]), -3)
        self.after(("back", 0, [LARGEST, 9]), -3)

    def test_the_refusal_told_first(self):
        self.after(("back", 1, []), -1)
        self.after(("back", 1, [0, 1000]), -1)
        self.after(("back", 1, [6, 9]), -2)
        self.after(("back", 0, [6, 1000]), -1)
        self.after(("back", 0, [6, 9, 6, 9]), -1)
        self.after(("back", 0, pairs(range(3, 10), 9)), -1)

    def test_translations_are_not_mistaken_for_keys(self):
        self.assertEqual(last(self.sent + [("back", 0, [0, 6, 1, 6])]), [2, 2, 2])


class BackAtSixty(unittest.TestCase):
    def one_too_many(self):
        return fifty_four_works() + [("send", 1, SIX), ("translate", 2, 0, 10)]

    def test_more_than_sixty_works(self):
        found = run(self.one_too_many() + [("back", 9, pairs(SIX, 500)), ("release", 1)])
        self.assertEqual(found[38:], [[-5], [0, 6, 0]])

    def test_sixty_works_of_the_same_package_afterwards(self):
        found = run(self.one_too_many() + [
            ("back", 9, pairs(SIX, 500)), ("back", 9, pairs(SIX[:5], 500)),
        ])
        self.assertEqual(found[38:], [[-5], [5, 2, 2, 2, 2, 2]])

    def test_sixty_works_is_not_too_many(self):
        found = run(self.one_too_many() + [
            ("back", 9, pairs(SIX[:5], 500)), ("back", 9, [5, 500]),
        ])
        self.assertEqual(found[38:], [[5, 2, 2, 2, 2, 2], [-5]])

    def test_only_what_is_there_at_the_end_counts(self):
        full = self.one_too_many() + [("back", 9, pairs(SIX[:5], 500))]
        self.assertEqual(last(full + [("back", 9, [5, 500, 0, 0])]), [2, 2, 2])
        self.assertEqual(last(full + [("back", 9, [0, 0, 5, 500])]), [2, 2, 2])
        self.assertEqual(last(full + [("back", 9, [0, 501, 5, 500])]), [-5])

    def test_another_translation_at_sixty(self):
        found = run(sixty_works() + [("back", 0, [0, 501]), ("text", 0, 1)])
        self.assertEqual(found[38:], [[1, 2], [6, 60, 10, 0, 0]])

    def test_what_is_not_taken_does_not_count(self):
        found = run(sixty_works() + [("translate", 1, 0, 10), ("back", 9, [0, 11, 1, 500])])
        self.assertEqual(found[38:], [[6, 60, 10, 0, 0], [0, 3, 1]])

    def test_none_that_is_not_taken_makes_no_room(self):
        found = run(fifty_four_works() + [
            ("send", 1, SIX), ("translate", 1, 0, 10), ("translate", 2, 0, 10),
            ("back", 9, [0, 0] + pairs(SIX[1:], 500)),
        ])
        self.assertEqual(found[38:], [[6, 56, 10, 0, 0], [-5]])

    def test_other_refusals_are_told_first(self):
        full = self.one_too_many()
        self.assertEqual(last(full + [("back", 9, pairs(SIX[:5], 500) + [5, 1000])]), [-1])
        self.assertEqual(last(full + [("back", 10, pairs(SIX, 500))]), [-2])
        self.assertEqual(last(full + [("back", 9, pairs(SIX[:5], 500) + [6, 500])]), [-3])


class BackBeyondALine(unittest.TestCase):
    """No line of 40 calls comes to these: the records are asked."""

    def office(self):
        """60 works; package 0, in tongue 0, has keys 0 to 2, all with 5 as their base."""
        records = Records()
        for key in range(10):
            records.set_text(key, 1)
        for key in (0, 1, 2):
            records.set_translation(0, key, 5)
        records.send_package(0, [0, 1, 2])
        for text in (1, 2):
            for key in range(10):
                records.set_text(key, text)
                for tongue in (1, 2, 3):
                    if records.how_it_stands()[1] < 60:
                        records.set_translation(tongue, key, 500)
        self.assertEqual(records.how_it_stands(), [10, 60, 1, 0, 0])
        for key in range(10):
            records.set_text(key, 1)
        return records

    def test_what_is_left_open_is_not_one_more(self):
        records = self.office()
        records.set_translation(0, 0, 0)
        records.set_translation(0, 9, 500)
        self.assertEqual(records.take_back(0, [(0, 6)]), [0, 3])
        self.assertEqual(records.how_it_stands(), [10, 60, 1, 1, 0])

    def test_what_is_as_it_was_sent_is_not_one_more(self):
        records = self.office()
        records.set_translation(0, 0, 0)
        records.set_translation(0, 9, 500)
        self.assertEqual(records.take_back(0, [(0, 5)]), [0, 1])

    def test_two_more_and_one_less(self):
        records = self.office()
        self.assertEqual(records.take_back(0, [(1, 0), (2, 0)]), [2, 2, 2])
        records.set_translation(0, 8, 500)
        records.set_translation(0, 9, 500)
        self.assertEqual(records.how_it_stands(), [10, 60, 1, 0, 0])
        self.assertEqual(records.take_back(0, [(0, 0), (1, 6), (2, 6)]), [-5])
        self.assertEqual(records.how_it_stands(), [10, 60, 1, 0, 0])
        self.assertEqual(records.take_back(0, [(1, 6), (0, 0)]), [2, 2, 2])


class WhatItWas(unittest.TestCase):
    """Each of the answers 0 to 3, by the base, ours and theirs."""

    def test_each_of_the_four(self):
        for base, ours, theirs, expected in [
            (0, 0, 0, 1), (5, 5, 5, 1), (5, 6, 5, 1), (5, 0, 5, 1), (0, 6, 0, 1),
            (0, 6, 6, 0), (5, 6, 6, 0), (5, 0, 0, 0),
            (0, 0, 6, 2), (5, 5, 6, 2), (5, 5, 0, 2),
            (0, 5, 6, 3), (5, 6, 7, 3), (5, 0, 7, 3), (5, 6, 0, 3),
        ]:
            with self.subTest(base=base, ours=ours, theirs=theirs):
                work = theirs if expected == 2 else ours
                found = run([
                    ("text", 7, 1), ("translate", 2, 7, base), ("send", 2, [7]),
                    ("translate", 2, 7, ours), ("back", 0, [7, theirs]), ("text", 7, 1),
                ])
                self.assertEqual(found[4], [1 if expected == 2 else 0, expected])
                self.assertEqual(found[5], [
                    1, 1 if work > 0 else 0, 1, 1 if expected == 3 else 0, 0,
                ])

    def test_in_the_order_of_the_pairs(self):
        found = run(texts(SIX, 1) + [
            ("translate", 0, 1, 5), ("send", 0, SIX), ("translate", 0, 2, 6), ("translate", 0, 3, 6),
            ("back", 0, [3, 6, 0, 9, 1, 5, 2, 7]), ("text", 0, 1),
        ])
        self.assertEqual(found[10:], [[1, 0, 2, 1, 3], [6, 4, 1, 1, 0]])

    def test_theirs_is_the_base_afterwards_when_taken(self):
        found = run([
            ("text", 7, 1), ("send", 0, [7]), ("back", 0, [7, 5]), ("back", 0, [7, 5]),
            ("back", 0, [7, 6]), ("back", 0, [7, 0]), ("back", 0, [7, 0]), ("back", 0, [7, 5]),
        ])
        self.assertEqual(found[2:], [[1, 2], [0, 1], [1, 2], [1, 2], [0, 1], [1, 2]])

    def test_theirs_is_the_base_afterwards_when_already_there(self):
        found = run([
            ("text", 7, 1), ("send", 0, [7]), ("translate", 0, 7, 5), ("back", 0, [7, 5]),
            ("back", 0, [7, 5]), ("back", 0, [7, 6]),
        ])
        self.assertEqual(found[3:], [[0, 0], [0, 1], [1, 2]])

    def test_theirs_is_the_base_afterwards_when_open(self):
        found = run([
            ("text", 7, 1), ("send", 0, [7]), ("translate", 0, 7, 5), ("back", 0, [7, 6]),
            ("back", 0, [7, 6]), ("translate", 0, 7, 6), ("back", 0, [7, 8]), ("text", 7, 1),
        ])
        self.assertEqual(found[3:], [
            [0, 3], [0, 1], [1, 1, 1, 1, 0], [1, 2], [1, 1, 1, 0, 0],
        ])

    def test_the_base_is_of_its_key_and_its_package_alone(self):
        found = run([
            ("text", 7, 1), ("text", 8, 1), ("send", 0, [7, 8]), ("send", 0, [7, 8]),
            ("back", 0, [7, 5]), ("back", 0, [8, 5]), ("back", 1, [7, 5, 8, 6]), ("back", 1, [7, 4]),
        ])
        self.assertEqual(found[4:], [[1, 2], [1, 2], [0, 0, 3], [1, 2]])

    def test_the_package_brings_work_of_its_own_tongue(self):
        found = run([
            ("text", 7, 1), ("send", 1, [7]), ("translate", 0, 7, 5), ("back", 0, [7, 6]),
            ("release", 0), ("release", 1), ("release", 2),
        ])
        self.assertEqual(found[3:], [[1, 2], [0, 1, 1], [1, 1, 1], [2, 1, 0]])


class SinceItWasSent(unittest.TestCase):
    def test_the_text_changed(self):
        found = run([
            ("text", 7, 1), ("send", 0, [7]), ("text", 7, 2), ("translate", 0, 7, 9),
            ("back", 0, [7, 5]), ("translate", 0, 7, 0), ("release", 0),
            ("text", 7, 1), ("release", 0),
        ])
        self.assertEqual(found[3:], [
            [1, 1, 1, 0, 0], [1, 2], [1, 1, 1, 0, 0], [0, 1, 0], [1, 1, 1, 0, 1], [1, 1, 1],
        ])

    def test_the_text_changed_and_the_elder_work_too(self):
        found = run([
            ("text", 7, 1), ("send", 0, [7]), ("translate", 0, 7, 4), ("text", 7, 2),
            ("back", 0, [7, 5]), ("choose", 0, 7, 2, 0), ("choose", 0, 7, 1, 0),
        ])
        self.assertEqual(found[4:], [[0, 3], [-2], [1, 1, 1, 0, 0]])

    def test_the_key_is_gone(self):
        found = run([
            ("text", 7, 1), ("send", 0, [7]), ("gone", 7), ("back", 0, [7, 5]), ("release", 0),
            ("text", 7, 1), ("release", 0),
        ])
        self.assertEqual(found[2:], [
            [0, 0, 1, 0, 0], [1, 2], [0, 0, 0], [1, 1, 1, 0, 1], [1, 1, 1],
        ])

    def test_the_base_is_the_work_of_the_text_that_was_sent(self):
        found = run([
            ("text", 7, 1), ("translate", 0, 7, 5), ("text", 7, 2), ("send", 0, [7]),
            ("text", 7, 1), ("back", 0, [7, 5]), ("text", 7, 2), ("release", 0),
        ])
        self.assertEqual(found[5:], [[1, 2], [1, 2, 1, 0, 0], [0, 1, 1]])


class TwoPackages(unittest.TestCase):
    """Two packages have the same key and text."""

    def setUp(self):
        self.sent = [("text", 7, 1), ("send", 0, [7]), ("send", 0, [7])]

    def test_the_same_comes_back_of_both(self):
        found = run(self.sent + [("back", 0, [7, 5]), ("back", 1, [7, 5]), ("text", 7, 1)])
        self.assertEqual(found[3:], [[1, 2], [0, 0], [1, 1, 2, 0, 0]])

    def test_another_one_is_open(self):
        found = run(self.sent + [("back", 1, [7, 5]), ("back", 0, [7, 6]), ("text", 7, 1)])
        self.assertEqual(found[3:], [[1, 2], [0, 3], [1, 1, 2, 1, 0]])

    def test_already_there_closes_what_was_open(self):
        found = run(self.sent + [
            ("back", 0, [7, 5]), ("back", 1, [7, 6]), ("back", 1, [7, 5]), ("text", 7, 1),
            ("choose", 0, 7, 1, 1),
        ])
        self.assertEqual(found[4:], [[0, 3], [0, 0], [1, 1, 2, 0, 0], [-2]])

    def test_taken_closes_what_was_open(self):
        found = run(self.sent + [
            ("back", 0, [7, 5]), ("back", 1, [7, 6]), ("back", 0, [7, 8]), ("text", 7, 1),
            ("choose", 0, 7, 1, 1),
        ])
        self.assertEqual(found[4:], [[0, 3], [1, 2], [1, 1, 2, 0, 0], [-2]])

    def test_as_it_was_sent_does_not_close_what_is_open(self):
        found = run(self.sent + [
            ("back", 0, [7, 5]), ("back", 1, [7, 6]), ("back", 0, [7, 5]), ("back", 1, [7, 6]),
            ("text", 7, 1), ("choose", 0, 7, 1, 1), ("back", 0, [7, 6]),
        ])
        self.assertEqual(found[4:], [
            [0, 3], [0, 1], [0, 1], [1, 1, 2, 1, 0], [1, 1, 2, 0, 0], [0, 0],
        ])

    def test_what_is_open_is_replaced(self):
        found = run(self.sent + [
            ("translate", 0, 7, 5), ("back", 0, [7, 6]), ("back", 1, [7, 8]), ("text", 7, 1),
            ("choose", 0, 7, 1, 1), ("send", 0, [7]), ("back", 2, [7, 8]), ("back", 0, [7, 8]),
        ])
        self.assertEqual(found[4:], [
            [0, 3], [0, 3], [1, 1, 2, 1, 0], [1, 1, 2, 0, 0], [2], [0, 1], [0, 0],
        ])

    def test_only_what_is_open_of_the_same_three_is_closed(self):
        found = run([
            ("text", 7, 1), ("text", 8, 1), ("send", 0, [7, 8]), ("send", 1, [7, 8]),
            ("translate", 0, 7, 5), ("translate", 0, 8, 5), ("translate", 1, 7, 5),
            ("back", 0, [7, 6, 8, 6]), ("back", 1, [7, 6]), ("text", 8, 2), ("send", 0, [8]),
            ("translate", 0, 8, 5), ("back", 2, [8, 6]), ("text", 8, 2),
            ("back", 0, [7, 5]), ("text", 8, 2),
        ])
        self.assertEqual(found[7:], [
            [0, 3, 3], [0, 3], [2, 3, 2, 3, 0], [2], [2, 4, 3, 3, 0], [0, 3], [2, 4, 3, 4, 0],
            [0, 0], [2, 4, 3, 3, 0],
        ])


if __name__ == "__main__":
    unittest.main()
