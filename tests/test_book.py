"""book: what it counts, what it refuses, and the place of a fault."""

import unittest

from helper import Guarded, as_bytes, booked, leaves_from_1, unmarked
from looseleavesdesk.findings import book


class Counts(unittest.TestCase):
    def counts(self, findings, *texts_and_counts):
        for text, count in texts_and_counts:
            with self.subTest(text):
                self.assertEqual(booked(findings, text), [count])

    def test_one_leaf(self):
        self.counts("1\n", ("1a", 1), ("1b", 1))

    def test_leaves_that_are_alone(self):
        self.counts("3\n", ("1a 2a 3a", 1), ("3b 1a 2b", 1), ("1a / 2b 3a", 2), ("1a 2b / 3a", 2), ("2b / 3b / 1b", 3))

    def test_pairs(self):
        self.counts("2\n", ("(1a 2a)", 1), ("(1a 2b)", 1), ("(2b 1a)", 1), ("(2b 1b)", 1))
        self.counts("3\n", ("(1a 2a) 3a", 1), ("(1a 2b 3b)", 1), ("1a (2b 3b)", 1), ("(3a 1b) / 2a", 2), ("2a / (3a 1b)", 2))

    def test_pairs_within_pairs_and_beside_one_another(self):
        self.counts("4\n", ("(1a (2a 3a) 4a)", 1), ("(1a 2b) (3a 4b)", 1), ("(4b 3a) / (2b 1a)", 2))
        self.counts("6\n", ("(1a (2a (3a 4a) 5a) 6a)", 1), ("(1a (2a 3a) (4b 5b) 6a)", 1), ("(1a (2b 3b) 4a) (5a 6b)", 1))
        self.counts("7\n", ("(1a 2b (3a 4b 5a) 6b 7a)", 1), ("(1a 7b) / 6a / (2b (3a 4b) 5a)", 3))

    def test_sixteen_leaves(self):
        self.counts("16\n", (" ".join(leaves_from_1(16)), 1), (" / ".join(leaves_from_1(16, "b")), 16))
        pairs = [f"({leaf}a {leaf + 1}b)" for leaf in range(1, 17, 2)]
        self.counts("16\n", (" ".join(pairs), 1), (" / ".join(pairs), 8), (" / ".join(reversed(pairs)), 8))
        within = [f"({leaf}b" for leaf in range(16, 8, -1)] + [f"{leaf}a)" for leaf in range(1, 9)]
        self.counts("16\n", (" ".join(within), 1))

    def test_each_number_of_leaves(self):
        for leaves in range(1, 17):
            rows = leaves_from_1(leaves)
            self.counts(f"{leaves}\n", (" ".join(rows), 1), (" / ".join(rows), leaves), (" ".join(reversed(rows)), 1))

    def test_whether_findings_hold_does_not_matter(self):
        self.counts("2\n1 < 2\n! 1 < 2\n1 = 2\n1 = 0\n", ("2a 1a", 1), ("(1a 2b)", 1), ("1a / 2b", 2))


class Faults(unittest.TestCase):
    def faults(self, leaves, *marked_texts):
        for marked in marked_texts:
            with self.subTest(marked, leaves=leaves):
                text, place = unmarked(marked)
                self.assertEqual(booked(f"{leaves}\n", text), [-3, place])

    def test_a_leaf_that_there_is_not(self):
        self.faults(2, "@0a 1a", "@3a 1a", "@16a", "@999a", "1a @3a", "1a @0b", "1a / @3a", "1a / @12a", "(1a @3a)")
        self.faults(2, "@(0a 1a)", "@(3a 1a)", "@(16a", "@(999a", "1a @(3a", "1a @(0b", "1a / @(3a", "1a / @(12a")
        self.faults(16, "@17a", "@(17a", "1a @(160a", "1a @160a")

    def test_a_leaf_that_was_there_already(self):
        self.faults(2, "1a @1a", "1a @1b", "1a / @1a", "(1a @1a)", "(1a @1b)", "2b @2b)", "2b / @2a")
        self.faults(3, "1a 2a @1a", "1a 2a @2a", "1a / 2a / @1a", "(1a 2a) @1b", "(1a 2a) / @2b")
        self.faults(2, "1a @(1a", "1a @(1b", "1a / @(1a", "(1a @(1a)", "2b @(2b 1a)")
        self.faults(16, "1a 10b @10a", "1a 10b @1a", "12a @(12a")

    def test_a_leaf_is_looked_at_before_what_follows(self):
        self.faults(2, "@3x", "@3", "@(3x", "@(3", "@0x", "@(0", "1a @1", "1a @1x", "1a @(1", "1a @(1x", "1a @(0 ")

    def test_digits_that_cannot_stand(self):
        self.faults(2, "0@1a", "0@0a", "(0@1a", "(0@0", "123@4a", "(123@4a", "100@0", "1a 0@2a", "1a (0@2a", "1a 111@1a")

    def test_a_closing_sign_where_none_waits(self):
        self.faults(2, "1a@)", "1a@) 2a", "1a 2a@)", "1b / 2b@)", "2a 1b@) x")
        self.faults(3, "(1a 2a) 3a@)", "(1a 2a) / 3a@)", "(1a 2a)@) 3a", "1a@) (2a 3a)")
        self.faults(5, "(1a (2a 3a) 4a) 5a@)")

    def test_a_closing_sign_of_a_leaf_that_has_an_opening_one(self):
        self.faults(1, "(1a@)", "(1b@)")
        self.faults(2, "(1a@) 2a", "(1a (2b@)", "(1a (2b@))", "1a (2b@)", "1a / (2b@)")

    def test_a_gathering_that_ends_while_one_waits(self):
        self.faults(2, "(1a@ / 2a)", "(1a@ / 2a", "(1a@ /", "(1a@ /x", "(1a@ / ", "(1b@ //")
        self.faults(3, "(1a 2a@ / 3a)", "(1a (2a@ / 3a)", "(1a (2a 3a)@ / ", "1a (2b@ / 3a)", "1a / (2b@ / 3a)")
        self.faults(2, "(1a 2a@", "1a (2a@", "(1a (2b@", "1a / (2b@")
        self.faults(1, "(1a@", "(1b@")
        self.faults(3, "(1a (2a 3b)@", "(1a 2b) (3a@", "(1a 2b) / (3a@")

    def test_a_blank_without_a_slash_ends_no_gathering(self):
        self.faults(2, "(1a @x", "(1a @", "(1a @ /", "(1a @)", "(1a@/ 2a)", "(1a@x")

    def test_more_behind_the_last_leaf(self):
        self.faults(1, "1a@ ", "1a@ / ", "1a@\n", "1a@a", "1a@b", "1a@ 1a", "1a@/", "1a@ 2a", "1a@0", "1a@(")
        self.faults(2, "(1a 2a)@)", "(1a 2a)@ ", "(1a 2a)@ / 3a", "1a / 2a@ / ", "1a 2a@ / 1a", "1a 2b@ 3a", "1a 2b@x")
        self.faults(2, "(1a 2b@ / ", "(1a 2b@ 3a)", "(1a 2b@x", "(1a 2b@(", "(1a 2b@ ", "(1a (2b@ / ")

    def test_leaves_that_are_missing(self):
        self.faults(2, "1a@", "2b@", "(1a@", "1a @", "1a /@", "1a / @", "1a / (@", "1a (@", "1a 2@", "1a (2@", "(1a 2@")
        self.faults(3, "1a 2b@", "1a / 2b@", "(1a 2b)@", "(1a 2b@", "(1a (2b@", "3a@", "(1a 2b) /@", "(1a 2b) / @")
        self.faults(16, " ".join(leaves_from_1(15)) + "@", " / ".join(leaves_from_1(15)) + " / @")

    def test_the_empty_text(self):
        for leaves in (1, 2, 16):
            self.faults(leaves, "@")

    def test_texts_that_end_too_early(self):
        whole = "(1a 2b (3a 4b) 5a) 6b / (7b 8b) / 9a"
        self.assertEqual(booked("9\n", whole), [3])
        for end in range(len(whole)):
            self.faults(9, whole[:end] + "@")
        self.faults(10, whole + "@", whole + " / 10@", whole + " / @1")

    def test_what_cannot_begin_a_leaf(self):
        self.faults(2, "@ 1a 2a", "@/ 1a", "@)", "@a", "@|1a", "@-1a", "@\n1a", "(@(1a", "(@ 1a", "(@)", "(@a", "(@/")
        self.faults(2, "1a @ 2a", "1a @a", "1a @)", "1a @|", "1a / @/ 2a", "1a / @ 2a", "1a / @)", "1a / (@(", "1a (@ 2a")

    def test_what_cannot_stand_behind_a_number(self):
        self.faults(2, "1@ 2a", "1@c", "1@A", "1@)", "1@(", "1@/", "(1@)", "(1@ ", "1a 2@ ", "1a 2@c", "1a (2@B")

    def test_what_cannot_stand_behind_a_leaf(self):
        self.faults(2, "1a@2a", "1a@b", "1a@(2a", "1a@/ 2a", "1a@\n2a", "1a /@2a", "1a /@/", "1a /@\n", "(1a@(", "(1a@2a)")
        self.faults(4, "(1a 2a)@3a", "(1a 2a)@(", "(1a 2a) /@(", "(1a 2a)@a", "(1a 2a)@/")

    def test_bytes_that_can_stand_nowhere(self):
        for worth in range(256):
            if worth not in as_bytes("0123456789ab() /"):
                for start in ("", "(", "1", "(1", "1a", "(1a", "1a ", "1a /", "1a / ", "(1a 2b)"):
                    self.assertEqual(book(as_bytes("3\n"), as_bytes(start) + [worth, 97]), [-3, len(start)])


class Refusals(unittest.TestCase):
    def test_findings_at_fault(self):
        for marked in ("@", "@0\n", "@17\n", "2@", "2\n1 < @1\n", "2\n1a > 2@", "2\n@3 < 1\n", "1\n" + "1a ^\n" * 64 + "@x"):
            text, place = unmarked(marked)
            for u in ("1a 2a", "", "x", "(1a"):
                self.assertEqual(booked(text, u), [-6, place])

    def test_the_leaves_are_those_of_the_findings(self):
        self.assertEqual(booked("1\n", "1a 2a"), [-3, 2])
        self.assertEqual(booked("2\n", "1a 2a"), [1])
        self.assertEqual(booked("3\n", "1a 2a"), [-3, 5])

    def test_too_long(self):
        long = [49] * 8193
        for t in (as_bytes("1\n"), as_bytes("0\n"), [], long, [49] * 16384):
            self.assertEqual(book(t, long), [-2])
            self.assertEqual(book(t, [49] * 16384), [-2])
        for u in (as_bytes("1a"), as_bytes("x"), []):
            self.assertEqual(book(long, u), [-2])
            self.assertEqual(book([49] * 16384, u), [-2])

    def test_not_too_long(self):
        self.assertEqual(book(as_bytes("1\n"), [49] * 8192), [-3, 3])
        self.assertEqual(book(as_bytes("1\n"), as_bytes("1a" + " " * 8190)), [-3, 2])
        self.assertEqual(book([49] * 8192, as_bytes("1a")), [-6, 3])
        self.assertEqual(book([49] * 8192, [49] * 8192), [-6, 3])


class Calls(unittest.TestCase):
    pairs = [
        ("2\n", "1a / 2b"), ("2\n1 < 2\n", "(1a 2b)"), ("2\n", "(1a / 2b)"), ("2\n1 < 1\n", "(1a 2b)"), ("", ""),
        ("2\n", ""), ("2\n", "1a 1b"), ("2\n", "1" * 8193),
    ]

    def answers(self):
        return [booked(findings, text) for findings, text in self.pairs]

    def test_what_is_handed_in_stays(self):
        for findings, text in self.pairs:
            t = Guarded(as_bytes(findings))
            u = Guarded(as_bytes(text))
            book(t, u)
            self.assertEqual(t, as_bytes(findings))
            self.assertEqual(u, as_bytes(text))

    def test_one_list_may_be_both(self):
        both = Guarded(as_bytes("1\n"))
        self.assertEqual(book(both, both), [-3, 1])

    def test_the_answer_is_a_list_of_int(self):
        for answer in self.answers():
            self.assertIs(type(answer), list)
            for number in answer:
                self.assertIs(type(number), int)

    def test_a_call_made_again_answers_the_same(self):
        first = self.answers()
        for answer in self.answers():
            answer.append(7)
        self.assertEqual(self.answers(), first)


if __name__ == "__main__":
    unittest.main()
