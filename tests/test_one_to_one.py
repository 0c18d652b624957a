"""C1: the texts that are read are just those that the definitions make, each is read as itself, and any other
text has one fault."""

import itertools
import unittest

from helper import as_bytes, booked, judged, one_byte_edits
from looseleavesdesk.findings import read_book, read_findings


def side_texts(leaves):
    return [f"{leaf}{letter}" for leaf in range(1, leaves + 1) for letter in "ab"]


def finding_texts(leaves):
    """Every finding of so many leaves, made as the document's table tells them."""
    sides = side_texts(leaves)
    numbers = [str(leaf) for leaf in range(1, leaves + 1)]
    made = [f"{side} ^" for side in sides] + [f"{leaf} = 0" for leaf in numbers]
    for one, other in itertools.permutations(sides, 2):
        made.append(f"{one} > {other}")
        if one[:-1] != other[:-1]:
            made.append(f"{one} | {other}")
    for one, other in itertools.permutations(numbers, 2):
        made.extend([f"{one} = {other}", f"{one} < {other}", f"{one} ~ {other}"])
    for count in range(2, leaves + 1):
        made.extend("o " + " ".join(some) for some in itertools.combinations(numbers, count))
    for count in range(1, 2 * leaves + 1):
        made.extend("h " + " ".join(some) for some in itertools.combinations(sides, count))
    return made + ["! " + finding for finding in made]


def paired(signs):
    """Whether the signs of a gathering are paired: partners are taken out from within till none are left."""
    left = "".join(signs).replace("|", "")
    while "()" in left:
        left = left.replace("()", "")
    return left == ""


def ways_to_gather(leaves):
    """Every way to cut a row of so many leaves into gatherings, as a list of their lengths."""
    if leaves == 0:
        return [[]]
    return [[first] + rest for first in range(1, leaves + 1) for rest in ways_to_gather(leaves - first)]


def gathering_text(rows):
    return " ".join(
        ("(" if sign == "(" else "") + f"{leaf}{letter}" + (")" if sign == ")" else "") for leaf, letter, sign in rows
    )


def book_texts(leaves):
    """Every book of so many leaves, as its text and how many gatherings it has."""
    made = {}
    orders = list(itertools.permutations(range(1, leaves + 1)))
    letters = list(itertools.product("ab", repeat=leaves))
    signs = list(itertools.product("|()", repeat=leaves))
    for lengths in ways_to_gather(leaves):
        starts = [sum(lengths[:k]) for k in range(len(lengths))]
        cuts = [slice(start, start + length) for start, length in zip(starts, lengths)]
        fitting = [some for some in signs if all(paired(some[cut]) for cut in cuts)]
        for order, fronts, some in itertools.product(orders, letters, fitting):
            rows = list(zip(order, fronts, some))
            text = " / ".join(gathering_text(rows[cut]) for cut in cuts)
            made[text] = len(lengths)
    return made


def finding_written(finding):
    negated, sign, parts = finding
    sign = chr(sign)
    if sign in "=<~o":
        parts = [str(part) for part in parts]
    else:
        parts = [f"{part // 2}{'ab'[part % 2]}" for part in parts]
    words = [sign] + parts if sign in "oh" else parts[:1] + [sign] + parts[1:]
    return ("", "! ")[negated] + " ".join(words)


def book_written(gatherings):
    rows = [[(number, "ab"[letter], chr(sign)) for number, letter, sign in lying] for lying in gatherings]
    return " / ".join(gathering_text(some) for some in rows)


class OneFault(unittest.TestCase):
    def refused_at_first_fault(self, text, answer, refusal, read):
        """One place within the text; what is before it has no other fault than that it ends there.

        A digit that can't stand behind others is left out: without it the number before it is looked at."""
        self.assertEqual((len(answer), answer[0]), (2, refusal), text)
        place = answer[1]
        self.assertTrue(0 <= place <= len(text), text)
        if text[:place][-1:].isdigit() and text[place:][:1].isdigit():
            return
        before = read(text[:place])
        if before[0] == refusal:
            self.assertEqual(before, [refusal, place], text)


class OfFindings(OneFault):
    def test_each_is_read_as_itself(self):
        for leaves in (1, 2, 3):
            lines = finding_texts(leaves)
            self.assertEqual(len(lines), len(set(lines)))
            for line in lines:
                text = f"{leaves}\n{line}\n"
                self.assertEqual(judged(text), [1], text)
                seen = read_findings(as_bytes(text))
                self.assertEqual(seen.leaves, leaves)
                self.assertEqual([finding_written(finding) for finding in seen.findings], [line])

    def test_several_keep_their_order(self):
        lines = finding_texts(2)
        for start in range(0, len(lines), 8):
            some = lines[start:] + lines[:start]
            seen = read_findings(as_bytes("\n".join(["2"] + some[:64] + [""])))
            self.assertEqual([finding_written(finding) for finding in seen.findings], some[:64])

    def test_what_is_near_them_is_read_just_if_it_is_one(self):
        for leaves in (1, 2):
            lines = finding_texts(leaves)
            known = set(lines)
            edited = {edit for line in lines for edit in one_byte_edits(line + "\n", "0123ab!>|^=<~oh \nx")}
            for body in sorted(edited):
                text = f"{leaves}\n{body}"
                answer = judged(text)
                parts = body.split("\n")
                if parts[-1] == "" and all(part in known for part in parts[:-1]):
                    self.assertEqual(answer, [len(parts) - 1], text)
                else:
                    self.refused_at_first_fault(text, answer, -6, judged)


class OfBooks(OneFault):
    def test_each_is_read_as_itself(self):
        for leaves in (1, 2, 3, 4):
            for text, count in book_texts(leaves).items():
                self.assertEqual(booked(f"{leaves}\n", text), [count], text)
                self.assertEqual(book_written(read_book(as_bytes(text), leaves)), text)

    def test_what_is_near_them_is_read_just_if_it_is_one(self):
        for leaves in (1, 2, 3):
            known = book_texts(leaves)
            findings = f"{leaves}\n"
            edited = {edit for text in known for edit in one_byte_edits(text, "0123ab() /|x")}
            for text in sorted(edited):
                answer = booked(findings, text)
                if text in known:
                    self.assertEqual(answer, [known[text]], text)
                else:
                    self.refused_at_first_fault(text, answer, -3, lambda start: booked(findings, start))


if __name__ == "__main__":
    unittest.main()
