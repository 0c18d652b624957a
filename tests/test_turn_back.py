"""turn and back: findings and books turned, and what is refused. C3."""

import random
import unittest

from helper import CallsOfBoth, Guarded, as_bytes, book_texts, finding_texts, findings_text, gathering_text
from helper import gatherings_of, leaves_from_1, sides_of, side_texts, some_book, some_finding
from looseleavesdesk.findings import agrees, back, book, holds, judge, leaf, sides, turn

STAYING = [
    "1a | 2b", "2b | 1a", "1a | 2a", "1 = 2", "2 = 1", "1 = 0", "3 = 0", "1 ~ 2", "2 ~ 1", "o 1 2", "o 1 2 3", "o 1 3",
    "h 1a", "h 3b", "h 1a 1b", "h 1b 2a 3a", "h 1a 1b 2a 2b 3a 3b",
]
CHANGING = [
    ("1a > 2b", "2b > 1a"), ("1a > 1b", "1b > 1a"), ("3b > 1b", "1b > 3b"), ("2a > 2b", "2b > 2a"),
    ("1 < 2", "2 < 1"), ("3 < 1", "1 < 3"),
]


def text_of(answer):
    """The text that is answered, behind its number of bytes."""
    assert answer[0] == len(answer) - 1, answer
    return bytes(answer[1:]).decode("ascii")


def turned(leaves, findings):
    """The findings turned, as lines; the first line is left out."""
    lines = text_of(turn(as_bytes(findings_text(leaves, findings)))).split("\n")
    assert (lines[0], lines[-1]) == (str(leaves), ""), lines
    return lines[1:-1]


def backed(leaves, text):
    return text_of(back(as_bytes(f"{leaves}\n"), as_bytes(text)))


def turned_by_the_words(finding):
    words = finding.split(" ")
    if words[-1] == "^":
        return finding[2:] if words[0] == "!" else "! " + finding
    if words[-2] in (">", "<"):
        words[-3], words[-1] = words[-1], words[-3]
    return " ".join(words)


def backed_by_the_words(text):
    signs = {"(": ")", ")": "(", "|": "|"}
    letters = {"a": "b", "b": "a"}
    gatherings = [
        [(number, letters[letter], signs[sign]) for number, letter, sign in reversed(gathering)]
        for gathering in reversed(gatherings_of(text))
    ]
    return " / ".join(gathering_text(gathering) for gathering in gatherings)


class Turn(unittest.TestCase):
    def test_what_stays(self):
        for finding in STAYING:
            with self.subTest(finding):
                self.assertEqual(turned(3, [finding]), [finding])
                self.assertEqual(turned(3, ["! " + finding]), ["! " + finding])

    def test_what_changes_places(self):
        for finding, other in CHANGING:
            with self.subTest(finding):
                self.assertEqual(turned(3, [finding]), [other])
                self.assertEqual(turned(3, [other]), [finding])
                self.assertEqual(turned(3, ["! " + finding]), ["! " + other])
                self.assertEqual(turned(3, ["! " + other]), ["! " + finding])

    def test_a_front(self):
        for side in side_texts(3):
            self.assertEqual(turned(3, [f"{side} ^"]), [f"! {side} ^"])
            self.assertEqual(turned(3, [f"! {side} ^"]), [f"{side} ^"])

    def test_fronts_among_others(self):
        findings = ["1 < 2", "1a ^", "! 2b ^", "o 1 2", "! 1a > 2a", "2b ^", "! h 1a", "! 1a ^", "! 1 ~ 2"]
        expected = ["2 < 1", "! 1a ^", "2b ^", "o 1 2", "! 2a > 1a", "! 2b ^", "! h 1a", "1a ^", "! 1 ~ 2"]
        self.assertEqual(turned(2, findings), expected)

    def test_the_whole_answer(self):
        self.assertEqual(turn(as_bytes("1\n")), [2, 49, 10])
        self.assertEqual(turn(as_bytes("16\n")), [3, 49, 54, 10])
        self.assertEqual(turn(as_bytes("2\n1a ^\n1 < 2\n")), [15] + as_bytes("2\n! 1a ^\n2 < 1\n"))
        self.assertEqual(turn(as_bytes("2\n! 1a ^\n2 = 0\n")), [13] + as_bytes("2\n1a ^\n2 = 0\n"))

    def test_no_finding(self):
        for leaves in range(1, 17):
            self.assertEqual(turned(leaves, []), [])

    def test_sixty_four_findings(self):
        self.assertEqual(turned(1, ["1a ^"] * 64), ["! 1a ^"] * 64)
        self.assertEqual(turned(1, ["! 1a ^"] * 64), ["1a ^"] * 64)
        self.assertEqual(turned(1, ["! 1b ^", "1a ^"] * 32), ["1b ^", "! 1a ^"] * 32)
        self.assertEqual(turned(16, ["16 < 10", "10b > 16a"] * 32), ["10 < 16", "16a > 10b"] * 32)

    def test_the_longest_text(self):
        findings = ["! h " + " ".join(side_texts(16))] * 64
        self.assertEqual(turned(16, findings), findings)

    def test_every_finding(self):
        for leaves in (1, 2, 3):
            lines = finding_texts(leaves)
            for start in range(0, len(lines), 64):
                some = lines[start:start + 64]
                self.assertEqual(turned(leaves, some), [turned_by_the_words(finding) for finding in some])

    def test_some_findings(self):
        source = random.Random(11)
        for leaves in list(range(2, 17)) * 5:
            findings = [some_finding(source, leaves) for _ in range(source.randint(0, 64))]
            self.assertEqual(turned(leaves, findings), [turned_by_the_words(finding) for finding in findings])


class TurnRefuses(unittest.TestCase):
    at_fault = CallsOfBoth.at_fault

    def test_findings_at_fault(self):
        for t in self.at_fault:
            self.assertEqual(turn(as_bytes(t)), [-6], t)

    def test_too_long(self):
        for length in (8193, 8194, 16384):
            self.assertEqual(turn([49] * length), [-2])
            self.assertEqual(turn((as_bytes("1\n") + as_bytes("1a ^\n") * length)[:length]), [-2])

    def test_not_too_long(self):
        self.assertEqual(turn([49] * 8192), [-6])
        self.assertEqual(turn(as_bytes("1\n") + [10] * 8190), [-6])

    def test_what_is_handed_in_stays(self):
        for text in ["3\n1 < 2\n1a ^\n! 1a ^\n2a > 1b\n", "3\n", "1" * 8193] + self.at_fault:
            t = Guarded(as_bytes(text))
            turn(t)
            self.assertEqual(t, as_bytes(text))

    def test_the_answer_is_a_list_of_int(self):
        for text in ["3\n1 < 2\n1a ^\n! 1a ^\n2a > 1b\n", "3\n", "1" * 8193] + self.at_fault:
            answer = turn(as_bytes(text))
            self.assertIs(type(answer), list)
            self.assertEqual({type(number) for number in answer}, {int})

    def test_a_call_made_again_answers_the_same(self):
        texts = ["3\n1 < 2\n1a ^\n! 1a ^\n2a > 1b\n", "3\n", ""]
        first = [turn(as_bytes(text)) for text in texts]
        for answer in [turn(as_bytes(text)) for text in texts]:
            answer.append(7)
        self.assertEqual([turn(as_bytes(text)) for text in texts], first)


class Back(CallsOfBoth, unittest.TestCase):
    def call(self, t, u):
        return back(t, u)

    def turns(self, leaves, *rows):
        for text, other in rows:
            with self.subTest(text):
                self.assertEqual(backed(leaves, text), other)
                self.assertEqual(backed(leaves, other), text)

    def test_one_leaf(self):
        self.turns(1, ("1a", "1b"))
        self.assertEqual(back(as_bytes("1\n"), as_bytes("1a")), [2, 49, 98])

    def test_one_gathering(self):
        self.turns(2, ("1a 2a", "2b 1b"), ("1a 2b", "2a 1b"), ("(1a 2a)", "(2b 1b)"), ("(1b 2a)", "(2b 1a)"))
        self.turns(3, ("(1a 2a) 3b", "3a (2b 1b)"), ("(1a 3a 2b)", "(2a 3b 1b)"), ("1a 2a 3a", "3b 2b 1b"))

    def test_several_gatherings(self):
        self.turns(2, ("1a / 2a", "2b / 1b"), ("1b / 2a", "2b / 1a"))
        self.turns(4, ("(1a 2a) / 3a / 4b", "4a / 3b / (2b 1b)"), ("1a 2a / (3a 4a)", "(4b 3b) / 2b 1b"))

    def test_pairs_within_pairs_and_leaves_alone(self):
        self.turns(7, ("(1a (2b 3a) 4b 5a) / 6a 7b", "7a 6b / (5b 4a (3b 2a) 1b)"))
        self.turns(7, ("(1a (2a 3a) (4b 5b) 6a) 7a", "7b (6b (5a 4a) (3b 2b) 1b)"))
        self.turns(6, ("(1a 2b) (3a (4a 5b) 6a)", "(6b (5a 4b) 3b) (2a 1b)"))

    def test_sixteen_leaves(self):
        for gap in (" ", " / "):
            self.turns(16, (gap.join(leaves_from_1(16)), gap.join(reversed(leaves_from_1(16, "b")))))
        nested = ["(" + side for side in leaves_from_1(16)[:8]] + [side + ")" for side in leaves_from_1(16)[8:]]
        other = [f"({leaf}b" for leaf in range(16, 8, -1)] + [f"{leaf}b)" for leaf in range(8, 0, -1)]
        self.turns(16, (" ".join(nested), " ".join(other)))
        self.turns(16, (
            "(1a 2b) / (16a (15a 14a) 13b) / 3a 4a / (5a 6a (7b 8b) 9b) 10a / 11b / 12a",
            "12b / 11a / 10b (9a (8a 7a) 6b 5b) / 4b 3b / (13a (14b 15b) 16b) / (2a 1b)",
        ))

    def test_findings_do_not_matter(self):
        self.assertEqual(text_of(back(as_bytes("2\n2 < 1\n! 1a ^\n"), as_bytes("1a / 2b"))), "2a / 1b")

    def test_books_by_the_words(self):
        source = random.Random(12)
        texts = [(leaves, text) for leaves in (1, 2, 3) for text in book_texts(leaves)]
        texts += [(leaves, some_book(source, leaves)) for leaves in list(range(4, 17)) * 20]
        for leaves, text in texts:
            self.assertEqual(backed(leaves, text), backed_by_the_words(text))


class TurnedTwice(unittest.TestCase):
    """C3: turned twice it's as it was; turned, the same findings hold by their numbers."""

    def both_ways(self, leaves, findings, text):
        t = as_bytes(findings_text(leaves, findings))
        u = as_bytes(text)
        other_t = turn(t)[1:]
        other_u = back(t, u)[1:]
        self.assertEqual(judge(other_t), judge(t))
        self.assertEqual(book(other_t, other_u), book(t, u))
        self.assertEqual(turn(other_t), [len(t)] + t)
        self.assertEqual(back(other_t, other_u), [len(u)] + u)
        for k in range(len(findings) + 1):
            self.assertEqual(holds(k, other_t, other_u), holds(k, t, u), (findings[k:k + 1], text))
        self.assertEqual(agrees(other_t, other_u), agrees(t, u))

    def test_every_finding_of_every_small_book(self):
        for leaves in (1, 2):
            lines = finding_texts(leaves)
            for text in book_texts(leaves):
                for start in range(0, len(lines), 8):
                    self.both_ways(leaves, lines[start:start + 8], text)

    def test_every_book_of_three_leaves(self):
        source = random.Random(13)
        lines = finding_texts(3)
        for text in book_texts(3):
            self.both_ways(3, source.sample(lines, 12), text)

    def test_some_findings_of_some_books(self):
        source = random.Random(14)
        for leaves in list(range(2, 17)) * 6:
            findings = [some_finding(source, leaves) for _ in range(source.randint(0, 24))]
            self.both_ways(leaves, findings, some_book(source, leaves))

    def test_sides_lie_in_the_opposite_order(self):
        source = random.Random(15)
        for leaves in list(range(1, 17)) * 10:
            text = some_book(source, leaves)
            other = backed(leaves, text)
            t = as_bytes(f"{leaves}\n")
            self.assertEqual(sides(t, as_bytes(other))[1:], sides(t, as_bytes(text))[:0:-1])
            self.assertEqual(sides_of(other), sides_of(text)[::-1])
            gatherings = book(t, as_bytes(text))[0]
            for number in range(1, leaves + 1):
                place, gathering, partner, front = leaf(number, t, as_bytes(text))
                expected = [leaves - 1 - place, gatherings - 1 - gathering, partner, 1 - front]
                self.assertEqual(leaf(number, t, as_bytes(other)), expected)


if __name__ == "__main__":
    unittest.main()
