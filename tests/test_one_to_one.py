"""C1: the texts that are read are just those that the definitions make, each is read as itself, and any other
text has one fault."""

import unittest

from helper import as_bytes, book_texts, booked, finding_texts, gathering_text, judged, one_byte_edits
from looseleavesdesk.reading import read_book, read_findings


def finding_written(finding):
    sign = chr(finding.sign)
    if sign in "=<~o":
        told = [str(part) for part in finding.told]
    else:
        told = [f"{part // 2}{'ab'[part % 2]}" for part in finding.told]
    words = [sign] + told if sign in "oh" else told[:1] + [sign] + told[1:]
    return ("! " if finding.negated else "") + " ".join(words)


def book_written(gatherings):
    rows = [[(leaf.number, "ab"[leaf.front], chr(leaf.sign)) for leaf in lying] for lying in gatherings]
    return " / ".join(gathering_text(some) for some in rows)


class OneFault(unittest.TestCase):
    def refused_at_first_fault(self, text, answer, refusal, read):
        """One place within the text; what is before it has no other fault than that it ends there.

        A digit that can't stand behind others is left out: without it the number before it is looked at."""
        self.assertEqual((len(answer), answer[0]), (2, refusal), text)
        place = answer[1]
        self.assertTrue(0 <= place <= len(text), text)
        if text[:place][-1:].isdigit() and text[place:][:1].isdigit():
            return
        before = read(text[:place])
        if before[0] == refusal:
            self.assertEqual(before, [refusal, place], text)


class OfFindings(OneFault):
    def test_each_is_read_as_itself(self):
        for leaves in (1, 2, 3):
            lines = finding_texts(leaves)
            self.assertEqual(len(lines), len(set(lines)))
            for line in lines:
                text = f"{leaves}\n{line}\n"
                self.assertEqual(judged(text), [1], text)
                seen = read_findings(as_bytes(text))
                self.assertEqual(seen.leaves, leaves)
                self.assertEqual([finding_written(finding) for finding in seen.findings], [line])

    def test_several_keep_their_order(self):
        lines = finding_texts(2)
        for start in range(0, len(lines), 8):
            some = lines[start:] + lines[:start]
            seen = read_findings(as_bytes("\n".join(["2"] + some[:64] + [""])))
            self.assertEqual([finding_written(finding) for finding in seen.findings], some[:64])

    def test_what_is_near_them_is_read_just_if_it_is_one(self):
        for leaves in (1, 2):
            lines = finding_texts(leaves)
            known = set(lines)
            edited = {edit for line in lines for edit in one_byte_edits(line + "\n", "0123ab!>|^=<~oh \nx")}
            for body in sorted(edited):
                text = f"{leaves}\n{body}"
                answer = judged(text)
                parts = body.split("\n")
                if parts[-1] == "" and all(part in known for part in parts[:-1]):
                    self.assertEqual(answer, [len(parts) - 1], text)
                else:
                    self.refused_at_first_fault(text, answer, -6, judged)


class OfBooks(OneFault):
    def test_each_is_read_as_itself(self):
        for leaves in (1, 2, 3, 4):
            for text, count in book_texts(leaves).items():
                self.assertEqual(booked(f"{leaves}\n", text), [count], text)
                self.assertEqual(book_written(read_book(as_bytes(text), leaves)), text)

    def test_what_is_near_them_is_read_just_if_it_is_one(self):
        for leaves in (1, 2, 3):
            known = book_texts(leaves)
            findings = f"{leaves}\n"
            edited = {edit for text in known for edit in one_byte_edits(text, "0123ab() /|x")}
            for text in sorted(edited):
                answer = booked(findings, text)
                if text in known:
                    self.assertEqual(answer, [known[text]], text)
                else:
                    self.refused_at_first_fault(text, answer, -3, lambda start: booked(findings, start))


if __name__ == "__main__":
    unittest.main()
