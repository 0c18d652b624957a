"""Over all calls: what one refuses, all refuse, by one number and in one order. C1 over the whole program."""

import inspect
import random
import unittest

from helper import as_bytes, finding_texts, findings_text, one_byte_edits, some_book, some_finding
from looseleavesdesk import findings
from looseleavesdesk.findings import agrees, back, book, holds, judge, leaf, sides, turn

OF_BOTH = [
    agrees, sides, back,
    lambda t, u: holds(0, t, u), lambda t, u: holds(64, t, u), lambda t, u: leaf(1, t, u), lambda t, u: leaf(0, t, u),
]


class Interface(unittest.TestCase):
    def test_names_and_arguments(self):
        told = {
            "judge": ["t"], "book": ["t", "u"], "agrees": ["t", "u"], "holds": ["k", "t", "u"], "leaf": ["l", "t", "u"],
            "sides": ["t", "u"], "turn": ["t"], "back": ["t", "u"],
        }
        for name, arguments in told.items():
            self.assertEqual(list(inspect.signature(getattr(findings, name)).parameters), arguments)

    def test_arguments_by_name(self):
        t, u = as_bytes("2\n1 < 2\n"), as_bytes("1a 2a")
        self.assertEqual(judge(t=t), [1])
        self.assertEqual(book(t=t, u=u), [1])
        self.assertEqual(agrees(t=t, u=u), [0])
        self.assertEqual(holds(k=0, t=t, u=u), [1])
        self.assertEqual(leaf(l=2, t=t, u=u), [1, 0, 0, 0])
        self.assertEqual(sides(t=t, u=u), [4, 2, 3, 4, 5])
        self.assertEqual(turn(t=t), [8] + as_bytes("2\n2 < 1\n"))
        self.assertEqual(back(t=t, u=u), [5] + as_bytes("2b 1b"))


class AllAlike(unittest.TestCase):
    def alike(self, t, u):
        """Each call refuses just what book or judge does, by that number alone, or answers no such refusal."""
        judged, booked = judge(t), book(t, u)
        if judged[0] < 0 and len(u) <= 8192:
            self.assertEqual(booked, judged)
        if judged[0] < 0:
            self.assertEqual(turn(t), judged[:1])
        else:
            self.assertGreater(turn(t)[0], 0)
        for call in OF_BOTH:
            answer = call(t, u)
            if booked[0] < 0:
                self.assertEqual(answer, booked[:1], (t, u))
            else:
                self.assertIn(answer[0] >= 0 or answer, (True, [-4]), (t, u))

    def test_what_is_near_findings(self):
        source = random.Random(16)
        lines = finding_texts(2)
        for finding in source.sample(lines, 12):
            for body in one_byte_edits(finding + "\n", "012ab!>|^=<~oh \nx"):
                self.alike(as_bytes("2\n" + body), as_bytes(source.choice(("1a 2b", "(2b 1b)", "1a / 2a", "1a", "(1a"))))

    def test_what_is_near_books(self):
        source = random.Random(17)
        for leaves in (1, 2, 3, 5, 12):
            t = as_bytes(findings_text(leaves, ["1a ^", "! 1 = 0"]))
            for text in one_byte_edits(some_book(source, leaves), "0123ab() /|x"):
                self.alike(t, as_bytes(text))

    def test_any_bytes(self):
        source = random.Random(18)
        for _ in range(2000):
            t = source.choices(as_bytes("12ab!>|^=<~oh \n"), k=source.randint(0, 12))
            u = source.choices(as_bytes("12ab() /"), k=source.randint(0, 8))
            self.alike(t, u)
            self.alike(as_bytes("2\n") + t, u)
            self.alike(as_bytes("2\n1 < 2\n"), u)
            self.alike(source.choices(range(256), k=5), source.choices(range(256), k=5))

    def test_lengths(self):
        for t in ([49] * 8192, [49] * 8193, [49] * 16384, as_bytes("1\n"), []):
            for u in ([49] * 8192, [49] * 8193, [49] * 16384, as_bytes("1a"), []):
                self.alike(t, u)


class AnyBooks(unittest.TestCase):
    def test_different_books_and_findings_have_different_texts_turned(self):
        source = random.Random(19)
        for leaves in (2, 5, 16):
            t = as_bytes(f"{leaves}\n")
            books = {some_book(source, leaves) for _ in range(200)}
            self.assertEqual(len({tuple(back(t, as_bytes(text))) for text in books}), len(books))
            lines = {some_finding(source, leaves) for _ in range(200)}
            self.assertEqual(len({tuple(turn(as_bytes(findings_text(leaves, [line])))) for line in lines}), len(lines))


if __name__ == "__main__":
    unittest.main()
