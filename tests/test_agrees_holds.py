"""agrees and holds: what each finding says, which finding is answered, what is refused. C2."""

import random
import unittest

from helper import CallsOfBoth, as_bytes, book_texts, finding_texts, findings_text, is_so, leaves_from_1, side_texts
from helper import some_book, some_finding
from looseleavesdesk.findings import agrees, holds


def agreed(leaves, findings, text):
    return agrees(as_bytes(findings_text(leaves, findings)), as_bytes(text))


def held(k, leaves, findings, text):
    return holds(k, as_bytes(findings_text(leaves, findings)), as_bytes(text))


class EachFinding(unittest.TestCase):
    def so(self, expected, finding, *books):
        """Of each book the finding is as expected, with ! before it the opposite."""
        for text in books:
            leaves = text.count("a") + text.count("b")
            with self.subTest(finding, book=text):
                self.assertEqual(held(0, leaves, [finding], text), [1 if expected else 0])
                self.assertEqual(held(0, leaves, ["! " + finding], text), [0 if expected else 1])
                self.assertEqual(agreed(leaves, [finding], text), [0 if expected else 1])
                self.assertEqual(agreed(leaves, ["! " + finding], text), [1 if expected else 0])

    def test_a_side_directly_behind_another(self):
        self.so(True, "1b > 2a", "1a 2a", "(1a 2a)", "3b 1a 2a", "1a / 2a", "(3a 1a) / (2a 4a)")
        self.so(False, "1b > 2a", "2b 1b", "1a 2b", "1b 2a", "1b 2b", "1a 3a 2a", "2a 1a", "1a / 2b", "2b / 1b", "1a / 3a / 2a")
        self.so(True, "2b > 1b", "2a 1b", "2a / 1b")
        self.so(False, "2b > 1b", "1b 2a", "1a 2b", "1a / 2a")

    def test_the_two_sides_of_one_leaf_behind_one_another(self):
        self.so(True, "1a > 1b", "1a", "2b 1a", "1a 2b", "(1a 2a)", "2a / 1a")
        self.so(False, "1a > 1b", "1b", "2b 1b", "1b 2b", "(1b 2a)", "2a / 1b")
        self.so(True, "2b > 2a", "1a 2b", "2b / 1a")
        self.so(False, "2b > 2a", "1a 2a", "2a / 1a")

    def test_sides_two_apart_do_not_follow(self):
        self.so(False, "1a > 2a", "1a 2a", "1a / 2a", "1a 2b", "2a 1a")
        self.so(False, "1a > 2b", "1a 2a", "1a / 2a", "1a 2b")

    def test_sides_that_face_one_another(self):
        for finding in ("1b | 2a", "2a | 1b"):
            self.so(True, finding, "1a 2a", "2b 1b", "(1a 2a)", "3a 1a 2a", "1a / 2a", "2b / 1b", "(3b 1a) / (2a 4a)")
            self.so(False, finding, "1b 2b", "2a 1a", "1a 2b", "1b 2a", "2a 1b", "2b 1a", "1a 3a 2a", "1b / 2b", "2a / 1a")
            self.so(False, finding, "1a / 3a / 2a")

    def test_sides_of_one_kind_that_face_one_another(self):
        for finding in ("1a | 2a", "2a | 1a"):
            self.so(True, finding, "1b 2a", "2b 1a", "1b / 2a", "2b / 1a")
            self.so(False, finding, "1a 2b", "1a 2a", "1a / 2a", "2a / 1b")

    def test_a_side_in_front(self):
        self.so(True, "1a ^", "1a", "2b 1a", "(1a 2a)", "2a / 1a", "1a / 2b")
        self.so(False, "1a ^", "1b", "2b 1b", "(1b 2a)", "2a / 1b", "1b / 2a")
        self.so(True, "2b ^", "1a 2b", "1b / 2b")
        self.so(False, "2b ^", "1b 2a", "1b / 2a")

    def test_partners(self):
        for finding in ("1 = 2", "2 = 1"):
            self.so(True, finding, "(1a 2a)", "(2b 1a)", "(1a 3a 2b)", "3a / (1a 2a)", "(2a 1a) / 3a", "(4a (1a 2b) 3a)")
            self.so(False, finding, "1a 2a", "1a / 2a", "(1a 3a) 2a", "(3a 2a) / 1a", "(1a 3a) / (2a 4a)", "(3a 1a 2a)")

    def test_partners_with_pairs_within_pairs(self):
        nested = ["(1a (2a (3a 4a) 5a) 6a)", "(1a (2b 7b (3a 4a) 5a) 6a)", "7a / (6b (5b (4b 3b) 2a) 1a)"]
        for finding in ("1 = 6", "2 = 5", "3 = 4", "6 = 1", "5 = 2", "4 = 3"):
            self.so(True, finding, *nested)
        for finding in ("1 = 2", "2 = 4", "3 = 5", "6 = 5", "1 = 4", "1 = 5", "3 = 1"):
            self.so(False, finding, *nested)
        beside = "(1a (2a 3a) 4b (5a 6a) 7a)"
        for finding in ("1 = 7", "3 = 2", "5 = 6", "4 = 0"):
            self.so(True, finding, beside)
        for finding in ("1 = 3", "2 = 6", "3 = 5", "4 = 1", "1 = 0", "2 = 0", "6 = 0", "7 = 0"):
            self.so(False, finding, beside)

    def test_a_leaf_alone(self):
        self.so(True, "1 = 0", "1a", "1b 2a", "(2a 1a 3a)", "(2a 3b) 1a", "1a / (2a 3a)", "(2a (3a 1b 4a) 5a)")
        self.so(False, "1 = 0", "(1a 2a)", "(2b 1a)", "(1a 3a) / 2a", "2a / (3a 1b)", "(2a (1a 4a) 3a)", "(2a (4a 1a) 3a)")

    def test_a_leaf_before_another(self):
        self.so(True, "1 < 2", "1a 2a", "1b 3a 2b", "(1a 2b)", "1a / 2a", "3a 1a / 4a / 2a", "(1a 3a) / (4a 2a)")
        self.so(False, "1 < 2", "2a 1a", "2b 3a 1b", "(2a 1b)", "2a / 1a", "3a 2a / 4a / 1a", "(3a 2a) / (1a 4a)")
        self.so(True, "2 < 1", "2a 1a", "2a / 1a")
        self.so(False, "2 < 1", "1a 2a", "1a / 2a")

    def test_leaves_in_one_gathering(self):
        for finding in ("1 ~ 2", "2 ~ 1"):
            self.so(True, finding, "1a 2a", "2b 1a", "(1a 2a)", "1a 3a 2a", "1a 2a / 3a", "3a / 2a 1a", "(1a 3a) 2a / 4a")
            self.so(False, finding, "1a / 2a", "2b / 1b", "1a 3a / 2a", "(1a 3a) / (2a 4a)", "1a / 3a / 2a")

    def test_leaves_one_directly_behind_another(self):
        self.so(True, "o 1 2", "1a 2a", "2b 1a", "3a 1a 2a", "3a 2b 1a 4a", "(1a 2a)", "1a / 2a", "3a 2a / 1a 4a", "2b / 1a / 3a")
        self.so(False, "o 1 2", "1a 3a 2a", "2a 3b 1a", "(1a 3a 2a)", "1a / 3a / 2a", "2a 3a / 1a", "1a 4a 3a 2a")
        for order in ("1a 2a 3b", "1b 3b 2a", "2a 1a 3a", "2a 3a 1a", "3a 1a 2a", "3b 2b 1b"):
            self.so(True, "o 1 2 3", order, order + " 4a", "4a " + order, "4b / " + order.replace(" ", " / "), "5a 4a " + order)
            one, two, three = order.split(" ")
            self.so(False, "o 1 2 3", f"{one} 4a {two} {three}", f"{one} {two} 4b {three}", f"{one} / 4a / {two} {three}")
        self.so(True, "o 1 3", "1a 3a 2a", "2a / 3a 1a", "2a 1a / 3b")
        self.so(False, "o 1 3", "1a 2a 3a", "3a / 2a / 1a")

    def test_all_leaves_lie_one_directly_behind_another(self):
        leaves = leaves_from_1(16)
        told = "o " + " ".join(str(leaf) for leaf in range(1, 17))
        self.so(True, told, " ".join(leaves), " / ".join(leaves), " ".join(reversed(leaves)), " ".join(leaves[7:] + leaves[:7]))
        told = "o " + " ".join(str(leaf) for leaf in range(1, 16))
        self.so(True, told, " ".join(leaves), " / ".join(leaves))
        self.so(False, told, " ".join(leaves[7:] + leaves[:7]))

    def test_like_sides_meet(self):
        self.so(True, "h 1b 2a", "1a 2a", "2b 1b", "1b 2b", "2a 1a", "(1a 2a)", "1a / 2a", "2b / 1b", "1a 2a 3a", "1a / 2a / 3b")
        self.so(False, "h 1b 2a", "1a 2b", "1b 2a", "2a 1b", "1a / 2b", "1b / 2a", "1a 3a 2a", "1a / 3a / 2a")
        self.so(True, "h 1a 2a 3a", "1a 2b 3a", "1b 2a / 3b", "2a / 3b / 1a")
        self.so(False, "h 1a 2a 3a", "1a 2b 3b", "1a 2a 3b", "1a / 2b / 3b", "1b 2b / 3a")

    def test_like_sides_meet_of_one_leaf(self):
        for finding in ("h 1a", "h 1b", "h 1a 1b"):
            self.so(True, finding, "1a", "1b")

    def test_like_sides_meet_of_all_sides_but_one(self):
        self.so(True, "h 1a 1b 2a 2b", "1a 2a", "2b 1a", "1a / 2b")
        # The first front and the last back meet none.
        self.so(True, "h 1b 2a 2b", "1a 2a", "2b 1b", "1a / 2b")
        self.so(False, "h 1b 2a 2b", "1b 2a", "2a 1a", "1b / 2b")

    def test_like_sides_meet_at_every_place(self):
        for text in ("1a 2a 3a 4a 5a", "(1a (2a 3a) 4a) 5a", "1a / 2a / 3a / 4a / 5a", "1a 2a / 3a / 4a 5a", "(1a 2a) / (3a 4a) 5a"):
            for leaf in range(1, 5):
                meeting = f"{leaf}b {leaf + 1}a"
                self.so(True, "h " + meeting, text)
                for side in meeting.split(" "):
                    self.so(False, "h " + side, text)
                    self.so(False, "h " + " ".join(other for other in side_texts(5) if other != side), text)
            for finding in ("h 1a", "h 5b", "h 1a 5b", "h " + " ".join(side_texts(5)[1:-1])):
                self.so(True, finding, text)

    def test_numbers_of_two_digits(self):
        text = "16b (10a 9b 2a) / 1a " + " ".join(leaves_from_1(15)[2:8] + leaves_from_1(15)[10:])
        for finding in ("16b ^", "16a > 10a", "10a | 16a", "10 = 2", "9 = 0", "16 < 1", "16 ~ 10", "o 2 9 10", "h 9b 10b"):
            self.so(True, finding, text)
        for finding in ("16a ^", "10a > 16a", "1a | 16a", "10 = 16", "10 = 0", "1 < 10", "1 ~ 10", "o 1 2 10", "h 9b 10b 11a"):
            self.so(False, finding, text)


class ByTheTable(unittest.TestCase):
    """Every finding of every small book, and some of larger ones, against the document's words."""

    def test_every_finding_of_every_book(self):
        for leaves in (1, 2, 3):
            books = [(text, as_bytes(text)) for text in book_texts(leaves)]
            for finding in finding_texts(leaves):
                t = as_bytes(findings_text(leaves, [finding]))
                for text, u in books:
                    so = is_so(finding, text)
                    self.assertEqual(holds(0, t, u), [int(so)], (finding, text))
                    self.assertEqual(agrees(t, u), [int(not so)], (finding, text))

    def test_some_findings_of_some_books(self):
        source = random.Random(5)
        for leaves in list(range(2, 17)) * 12:
            findings = [some_finding(source, leaves) for _ in range(source.randint(1, 64))]
            text = some_book(source, leaves)
            expected = [int(is_so(finding, text)) for finding in findings]
            answers = [held(k, leaves, findings, text)[0] for k in range(len(findings))]
            self.assertEqual(answers, expected, (findings, text))
            # agrees is asked of those that hold too, so that 0 and late numbers are met.
            self.assertEqual(agreed(leaves, findings, text), [(expected + [0]).index(0) + 1 if 0 in expected else 0])
            kept = [finding for finding, one in zip(findings, expected) if one]
            self.assertEqual(agreed(leaves, kept, text), [0], (kept, text))


class OneOfBoth(unittest.TestCase):
    """C2: of a finding and the one with ! before it always one holds; a book agrees just if each finding holds."""

    def test_of_both_just_one_holds(self):
        for leaves in (1, 2):
            plain = [finding for finding in finding_texts(leaves) if finding[0] != "!"]
            for text in book_texts(leaves):
                for finding in plain:
                    both = [finding, "! " + finding]
                    answers = [held(k, leaves, both, text) for k in (0, 1)]
                    self.assertIn(answers, ([[0], [1]], [[1], [0]]))
                    self.assertEqual(agreed(leaves, both, text), [answers.index([0]) + 1])

    def test_agrees_just_if_each_holds(self):
        source = random.Random(2)
        for leaves in list(range(2, 17)) * 20:
            findings = [some_finding(source, leaves) for _ in range(source.randint(1, 6))]
            text = some_book(source, leaves)
            answers = [held(k, leaves, findings, text) for k in range(len(findings))]
            self.assertEqual(agreed(leaves, findings, text) == [0], answers == [[1]] * len(findings))


class Agrees(CallsOfBoth, unittest.TestCase):
    def call(self, t, u):
        return agrees(t, u)

    def test_no_finding_at_all(self):
        for leaves in range(1, 17):
            for gap in (" ", " / "):
                self.assertEqual(agreed(leaves, [], gap.join(leaves_from_1(leaves))), [0])

    def test_all_hold(self):
        self.assertEqual(agreed(3, ["1 < 2", "2a ^", "! 1 = 2", "o 2 3", "3 = 0"], "1b 2a / 3a"), [0])
        self.assertEqual(agreed(1, ["1a ^"] * 64, "1a"), [0])

    def test_the_first_of_several_that_do_not_hold(self):
        text = "1a 2a"
        self.assertEqual(agreed(2, ["2 < 1", "1 < 2", "2a ^"], text), [1])
        self.assertEqual(agreed(2, ["1 < 2", "2b ^", "2 < 1"], text), [2])
        self.assertEqual(agreed(2, ["1 < 2", "2a ^", "! 1 ~ 2", "! 1 ~ 2"], text), [3])
        self.assertEqual(agreed(2, ["2 < 1", "2 < 1", "2 < 1"], text), [1])

    def test_each_place_of_64(self):
        for place in range(64):
            findings = ["1a ^"] * place + ["1b ^"] * (64 - place)
            self.assertEqual(agreed(1, findings, "1a"), [place + 1])
            findings = ["1a ^"] * place + ["1b ^"] + ["1a ^"] * (63 - place)
            self.assertEqual(agreed(1, findings, "1a"), [place + 1])

    def test_the_longest_text_of_findings(self):
        findings = ["! h " + " ".join(side_texts(16))] * 64
        self.assertEqual(agreed(16, findings, " ".join(leaves_from_1(16))), [1])
        findings = ["! h " + " ".join(side_texts(16)[:-2] + ["16b"])] * 64
        self.assertEqual(agreed(16, findings, " ".join(leaves_from_1(16))), [0])


class Holds(CallsOfBoth, unittest.TestCase):
    good = [("2\n1 < 2\n1a ^\n", "(1a 2b)"), ("2\n! 1 < 2\n", "2a 1b"), ("1\n1b ^\n", "1a"), ("2\n1 ~ 2\n", "1a / 2b")]

    def call(self, t, u):
        return holds(0, t, u)

    def none_such(self, t, u):
        return holds(64, t, u)

    def test_the_first_and_the_last(self):
        findings = ["1 < 2", "2 < 1", "2a ^", "! 2a ^"]
        self.assertEqual([held(k, 2, findings, "1a 2a") for k in range(4)], [[1], [0], [1], [0]])
        findings = ["1b ^"] + ["1a ^"] * 62 + ["1b ^"]
        self.assertEqual([held(k, 1, findings, "1a") for k in range(64)], [[0]] + [[1]] * 62 + [[0]])

    def test_none_behind_the_last(self):
        for count in range(65):
            for k in (count, count + 1, 64, 65, 2147483646, 2147483647):
                self.assertEqual(held(k, 1, ["1a ^"] * count, "1a"), [-4])

    def test_none_of_no_finding(self):
        for k in (0, 1, 63, 2147483647):
            self.assertEqual(held(k, 2, [], "(1a 2a)"), [-4])

    def test_others_that_do_not_hold_do_not_matter(self):
        self.assertEqual(held(1, 2, ["2 < 1", "1 < 2"], "1a 2a"), [1])
        self.assertEqual(held(0, 2, ["1 < 2", "2 < 1"], "1a 2a"), [1])


if __name__ == "__main__":
    unittest.main()
