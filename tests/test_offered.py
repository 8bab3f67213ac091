"""What is offered, and of promise 3 what is said of todo and offer."""

import unittest

from tests.line import LARGEST, last, run, sixty_works, texts


class Offer(unittest.TestCase):
    def test_its_own_work(self):
        found = run([("text", 7, 1), ("translate", 2, 7, 30), ("offer", 2, 7)])
        self.assertEqual(found[2], [1, 30, 30])

    def test_work_of_the_same_text_under_a_lower_key(self):
        found = run([
            ("text", 7, 1), ("text", 5, 1), ("translate", 2, 7, 30), ("offer", 2, 7), ("offer", 2, 5),
            ("translate", 2, 5, 31), ("offer", 2, 7), ("offer", 2, 5),
            ("translate", 2, 7, 32), ("offer", 2, 7), ("offer", 2, 5),
        ])
        self.assertEqual(found[3:5], [[1, 30, 30], [1, 0, 30]])
        self.assertEqual(found[6:8], [[1, 30, 31], [1, 31, 31]])
        self.assertEqual(found[9:11], [[1, 32, 31], [1, 31, 31]])

    def test_the_lowest_of_several_keys(self):
        for order in [(10, 20, 9), (9, 10, 20), (20, 10, 9), (9, 20, 10)]:
            with self.subTest(order=order):
                calls = [("text", 15, 1), ("text", 8, 2), ("translate", 0, 8, 99)]
                for key in order:
                    calls += [("text", key, 1), ("translate", 0, key, 100 + key)]
                found = run(calls + [("offer", 0, 15), ("offer", 0, 20), ("offer", 0, 9)])
                self.assertEqual(found[9:], [[1, 0, 109], [1, 120, 109], [1, 109, 109]])

    def test_key_0_and_key_99(self):
        found = run([
            ("text", 0, 1), ("text", 99, 1), ("translate", 0, 99, 30), ("offer", 0, 0), ("offer", 0, 99),
            ("translate", 0, 0, 31), ("offer", 0, 99), ("translate", 0, 99, 0), ("offer", 0, 99),
        ])
        self.assertEqual((found[3], found[4]), ([1, 0, 30], [1, 30, 30]))
        self.assertEqual((found[6], found[8]), ([1, 30, 31], [1, 0, 31]))

    def test_a_key_that_the_source_has_not_any_more(self):
        found = run([
            ("text", 7, 1), ("text", 3, 1), ("translate", 0, 3, 30), ("translate", 0, 7, 31),
            ("gone", 3), ("offer", 0, 7), ("text", 9, 1), ("offer", 0, 9),
        ])
        self.assertEqual((found[5], found[7]), ([1, 31, 30], [1, 0, 30]))

    def test_a_key_that_has_another_text_now(self):
        found = run([
            ("text", 3, 1), ("translate", 0, 3, 30), ("text", 3, 2), ("translate", 0, 3, 31),
            ("text", 7, 1), ("offer", 0, 7), ("text", 7, 2), ("offer", 0, 7), ("offer", 0, 3),
        ])
        self.assertEqual((found[5], found[7], found[8]), ([1, 0, 30], [2, 0, 31], [2, 31, 31]))

    def test_work_of_that_text_goes_ahead_of_other_work_of_that_key(self):
        found = run([
            ("text", 7, 1), ("text", 9, 2), ("translate", 0, 9, 30), ("translate", 0, 7, 31),
            ("text", 7, 2), ("offer", 0, 7),
        ])
        self.assertEqual(found[5], [2, 0, 30])

    def test_nothing(self):
        found = run([
            ("text", 7, 1), ("offer", 0, 7), ("text", 8, 2), ("translate", 0, 8, 30), ("offer", 0, 7),
        ])
        self.assertEqual((found[1], found[4]), ([1, 0, 0], [1, 0, 0]))

    def test_another_tongue_is_not_offered(self):
        found = run([
            ("text", 7, 1), ("translate", 1, 7, 30), ("text", 5, 1), ("translate", 2, 5, 31),
            ("offer", 0, 7), ("offer", 1, 7), ("offer", 2, 7), ("offer", 3, 7),
            ("text", 7, 3), ("offer", 0, 7), ("offer", 1, 7), ("offer", 2, 7),
        ])
        self.assertEqual(found[4:8], [[1, 0, 0], [1, 30, 30], [1, 0, 31], [1, 0, 0]])
        self.assertEqual(found[9:], [[3, 0, 0], [3, 0, 30], [3, 0, 0]])

    def test_work_that_was_taken_away_is_not_offered(self):
        found = run([
            ("text", 5, 1), ("text", 7, 1), ("translate", 0, 5, 30), ("translate", 0, 7, 31),
            ("translate", 0, 5, 0), ("offer", 0, 7), ("translate", 0, 7, 0), ("offer", 0, 7),
            ("text", 7, 2), ("offer", 0, 7),
        ])
        self.assertEqual((found[5], found[7], found[9]), ([1, 31, 31], [1, 0, 0], [2, 0, 0]))

    def test_work_that_came_back_as_none_is_not_offered(self):
        found = run([
            ("text", 7, 1), ("translate", 0, 7, 31), ("send", 0, [7]), ("back", 0, [7, 0]),
            ("offer", 0, 7), ("text", 7, 2), ("offer", 0, 7),
        ])
        self.assertEqual(found[3:], [[1, 2], [1, 0, 0], [1, 0, 1, 0, 0], [2, 0, 0]])

    def test_what_is_open_is_not_offered(self):
        found = run([
            ("text", 7, 1), ("send", 0, [7]), ("translate", 0, 7, 30), ("back", 0, [7, 31]),
            ("offer", 0, 7), ("text", 7, 2), ("offer", 0, 7), ("text", 8, 1), ("offer", 0, 8),
        ])
        self.assertEqual((found[4], found[6], found[8]), ([1, 30, 30], [2, 0, 30], [1, 0, 30]))

    def test_tongue_and_key_edges(self):
        found = run([
            ("text", 7, 1), ("translate", 3, 7, 30), ("offer", 3, 7), ("offer", 4, 7), ("offer", LARGEST, 7),
            ("offer", 3, 8), ("offer", 3, 100), ("offer", 3, LARGEST), ("gone", 7), ("offer", 3, 7),
        ])
        self.assertEqual(found[2:8], [[1, 30, 30], [-1], [-1], [-2], [-2], [-2]])
        self.assertEqual(found[9], [-2])
        self.assertEqual(last([("offer", 0, 0)]), [-2])

    def test_the_refusal_told_first(self):
        self.assertEqual(last([("offer", 4, 7)]), [-1])
        self.assertEqual(last([("text", 7, 1), ("offer", LARGEST, LARGEST)]), [-1])

    def test_edges_of_the_numbers(self):
        found = run([
            ("text", 7, 999), ("translate", 0, 7, 1), ("offer", 0, 7), ("translate", 0, 7, 999),
            ("offer", 0, 7), ("text", 7, 1), ("offer", 0, 7),
        ])
        self.assertEqual((found[2], found[4], found[6]), ([999, 1, 1], [999, 999, 999], [1, 0, 999]))

    def test_among_sixty_works(self):
        found = run(sixty_works() + [("offer", 3, 5), ("offer", 0, 5)])
        self.assertEqual(found[38:], [[3, 0, 500], [3, 500, 500]])


class CameLast(unittest.TestCase):
    """Key 7 has text 3, of which there's no work: its work that came last is offered."""

    def two_works(self):
        """Four calls; text 1 has work 10, text 2 has 20, which came last."""
        return [("text", 7, 1), ("translate", 0, 7, 10), ("text", 7, 2), ("translate", 0, 7, 20)]

    def offered(self, since):
        found = run(self.two_works() + since + [("text", 7, 3), ("offer", 0, 7)])
        self.assertEqual(found[-1][:2], [3, 0])
        return found[-1][2]

    def test_told_at_home(self):
        self.assertEqual(self.offered([]), 20)

    def test_neither_the_lowest_nor_the_largest(self):
        self.assertEqual(last([
            ("text", 7, 9), ("translate", 0, 7, 40), ("text", 7, 1), ("translate", 0, 7, 60),
            ("text", 7, 5), ("translate", 0, 7, 50), ("text", 7, 3), ("offer", 0, 7),
        ]), [3, 0, 50])

    def test_an_elder_one_told_anew(self):
        self.assertEqual(self.offered([("text", 7, 1), ("translate", 0, 7, 11)]), 11)

    def test_an_elder_one_told_once_more_with_the_same_number(self):
        self.assertEqual(self.offered([("text", 7, 1), ("translate", 0, 7, 10)]), 10)

    def test_the_text_alone_told_once_more(self):
        self.assertEqual(self.offered([("text", 7, 1), ("text", 7, 2), ("text", 7, 1)]), 20)

    def test_the_key_gone_and_there_again(self):
        self.assertEqual(self.offered([("gone", 7)]), 20)
        self.assertEqual(self.offered([("gone", 7), ("text", 7, 1)]), 20)

    def test_the_last_one_was_taken_away(self):
        self.assertEqual(self.offered([("translate", 0, 7, 0)]), 10)

    def test_an_elder_one_was_taken_away(self):
        self.assertEqual(self.offered([("text", 7, 1), ("translate", 0, 7, 0)]), 20)

    def test_taken_away_and_told_again(self):
        self.assertEqual(self.offered([
            ("text", 7, 1), ("translate", 0, 7, 0), ("translate", 0, 7, 10),
        ]), 10)

    def test_a_refused_one(self):
        self.assertEqual(self.offered([("text", 7, 1), ("translate", 0, 7, 1000)]), 20)
        self.assertEqual(self.offered([("text", 7, 1), ("translate", 4, 7, 10)]), 20)

    def test_one_was_taken(self):
        since = [("text", 7, 1), ("send", 0, [7]), ("text", 7, 2), ("back", 0, [7, 12])]
        self.assertEqual(self.offered(since[:3]), 20)
        self.assertEqual(self.offered(since), 12)

    def test_one_of_a_new_text_was_taken(self):
        self.assertEqual(self.offered([
            ("text", 7, 4), ("send", 0, [7]), ("text", 7, 2), ("translate", 0, 7, 21),
            ("back", 0, [7, 40]),
        ]), 40)

    def test_one_was_taken_then_one_was_told_at_home(self):
        self.assertEqual(self.offered([
            ("text", 7, 1), ("send", 0, [7]), ("back", 0, [7, 12]), ("text", 7, 2), ("translate", 0, 7, 20),
        ]), 20)

    def test_one_that_came_back_and_was_not_taken(self):
        sent = [("text", 7, 1), ("send", 0, [7]), ("translate", 0, 7, 13), ("text", 7, 2),
                ("translate", 0, 7, 20)]
        self.assertEqual(last(self.two_works() + sent + [("back", 0, [7, 13])]), [0, 0])
        self.assertEqual(self.offered(sent + [("back", 0, [7, 13])]), 20)
        self.assertEqual(last(self.two_works() + sent + [("back", 0, [7, 10])]), [0, 1])
        self.assertEqual(self.offered(sent + [("back", 0, [7, 10])]), 20)
        self.assertEqual(last(self.two_works() + sent + [("back", 0, [7, 14])]), [0, 3])
        self.assertEqual(self.offered(sent + [("back", 0, [7, 14])]), 20)

    def left_open(self, theirs):
        """Theirs is open of text 1, whose work is 13; that of text 2 came last."""
        return [
            ("text", 7, 1), ("send", 0, [7]), ("translate", 0, 7, 13), ("back", 0, [7, theirs]),
            ("text", 7, 2), ("translate", 0, 7, 20),
        ]

    def test_theirs_was_chosen(self):
        self.assertEqual(self.offered(self.left_open(14) + [("choose", 0, 7, 1, 1)]), 14)

    def test_theirs_was_chosen_with_the_number_that_was_there(self):
        self.assertEqual(self.offered(self.left_open(14) + [
            ("text", 7, 1), ("translate", 0, 7, 14), ("text", 7, 2), ("translate", 0, 7, 20),
            ("choose", 0, 7, 1, 1),
        ]), 14)

    def test_ours_was_chosen(self):
        """It was told when it came, not when what was open was closed."""
        self.assertEqual(self.offered(self.left_open(14) + [("choose", 0, 7, 1, 0)]), 20)

    def test_none_was_chosen(self):
        self.assertEqual(self.offered(self.left_open(0) + [("choose", 0, 7, 1, 1)]), 20)
        self.assertEqual(self.offered(self.left_open(0) + [
            ("choose", 0, 7, 1, 1), ("translate", 0, 7, 0),
        ]), 0)

    def test_one_of_another_tongue_or_key_came_later(self):
        self.assertEqual(self.offered([
            ("translate", 1, 7, 50), ("text", 8, 2), ("translate", 0, 8, 51),
            ("text", 6, 4), ("translate", 0, 6, 52),
        ]), 20)

    def test_taken_from_two_packages(self):
        """Two packages have key 7 with other texts; the one that comes back last is offered."""
        sent = [("text", 7, 4), ("send", 0, [7]), ("text", 7, 5), ("send", 0, [7])]
        self.assertEqual(self.offered(sent + [("back", 0, [7, 40]), ("back", 1, [7, 50])]), 50)
        self.assertEqual(self.offered(sent + [("back", 1, [7, 50]), ("back", 0, [7, 40])]), 40)


class Todo(unittest.TestCase):
    def test_no_keys(self):
        self.assertEqual(last([("todo", 0)]), [0])

    def test_all_translated(self):
        found = run([
            ("text", 7, 1), ("text", 8, 2), ("translate", 0, 7, 30), ("translate", 0, 8, 31), ("todo", 0),
        ])
        self.assertEqual(found[4], [0])

    def test_only_those_that_are_not_translated_and_rising(self):
        found = run([
            ("text", 50, 1), ("text", 99, 2), ("text", 0, 3), ("text", 7, 4), ("text", 8, 5),
            ("translate", 1, 7, 30), ("translate", 1, 99, 31), ("todo", 1),
        ])
        self.assertEqual(found[7], [3, 0, 3, 0, 8, 5, 0, 50, 1, 0])

    def test_ten_keys(self):
        found = last(texts(range(19, 9, -1), 6) + [("todo", 3)])
        expected = [10]
        for key in range(10, 20):
            expected += [key, 6, 0]
        self.assertEqual(found, expected)

    def test_what_is_offered_for_each(self):
        found = run([
            ("text", 9, 1), ("translate", 0, 9, 30), ("text", 5, 1), ("translate", 0, 5, 31),
            ("text", 3, 2), ("translate", 0, 3, 32), ("text", 3, 4),
            ("text", 7, 1), ("text", 8, 5), ("todo", 0),
        ])
        self.assertEqual(found[9], [3, 3, 4, 32, 7, 1, 31, 8, 5, 0])

    def test_what_is_offered_came_last(self):
        found = run([
            ("text", 7, 1), ("translate", 0, 7, 10), ("text", 7, 2), ("translate", 0, 7, 20),
            ("text", 7, 1), ("translate", 0, 7, 10), ("text", 7, 3), ("todo", 0),
        ])
        self.assertEqual(found[7], [1, 7, 3, 10])

    def test_work_of_another_text_does_not_make_it_translated(self):
        found = run([
            ("text", 7, 1), ("translate", 0, 7, 30), ("todo", 0), ("text", 7, 2), ("todo", 0),
            ("gone", 7), ("todo", 0), ("text", 7, 1), ("todo", 0), ("translate", 0, 7, 0), ("todo", 0),
        ])
        self.assertEqual(found[2::2], [[0], [1, 7, 2, 30], [0], [0], [1, 7, 1, 0]])

    def test_a_translation_with_the_number_of_the_text(self):
        found = run([("text", 7, 5), ("translate", 0, 7, 5), ("todo", 0)])
        self.assertEqual(found[2], [0])

    def test_tongue_edges(self):
        found = run([
            ("text", 7, 1), ("translate", 3, 7, 30), ("todo", 3), ("todo", 4), ("todo", LARGEST),
            ("todo", 0), ("todo", 1), ("text", 8, 1), ("todo", 3), ("todo", 2),
        ])
        self.assertEqual(found[2:7], [[0], [-1], [-1], [1, 7, 1, 0], [1, 7, 1, 0]])
        self.assertEqual(found[8:], [[1, 8, 1, 30], [2, 7, 1, 0, 8, 1, 0]])
        self.assertEqual(last([("todo", 4)]), [-1])


if __name__ == "__main__":
    unittest.main()
