"""judge: what it counts, what it refuses, and the place of a fault."""

import unittest

from helper import Guarded, as_bytes, judged, unmarked
from looseleavesdesk.findings import judge

EVERY_KIND = [
    "1a > 2b", "1a > 1b", "2b > 1a", "1a | 2b", "2a | 1a", "1a ^", "2b ^", "1 = 2", "2 = 1", "1 = 0", "2 = 0",
    "1 < 2", "2 < 1", "1 ~ 2", "2 ~ 1", "o 1 2", "o 1 2 3", "o 1 3", "h 1a", "h 2b", "h 1a 1b", "h 1b 2a",
    "h 1a 1b 2a 2b 3a 3b",
]


class Counts(unittest.TestCase):
    def test_every_kind_of_finding(self):
        for finding in EVERY_KIND:
            with self.subTest(finding):
                self.assertEqual(judged(f"3\n{finding}\n"), [1])

    def test_every_kind_behind_a_bang(self):
        for finding in EVERY_KIND:
            with self.subTest(finding):
                self.assertEqual(judged(f"3\n! {finding}\n"), [1])

    def test_all_kinds_together(self):
        lines = [line for finding in EVERY_KIND for line in (finding, "! " + finding)]
        self.assertEqual(judged("3\n" + "\n".join(lines) + "\n"), [len(lines)])

    def test_no_finding(self):
        for leaves in range(1, 17):
            self.assertEqual(judged(f"{leaves}\n"), [0])

    def test_each_count_up_to_64(self):
        for count in range(65):
            self.assertEqual(judged("1\n" + "1a ^\n" * count), [count])

    def test_the_same_finding_may_stand_again(self):
        self.assertEqual(judged("2\n1 < 2\n1 < 2\n! 1 < 2\n"), [3])

    def test_numbers_of_two_digits(self):
        leaves = " ".join(str(leaf) for leaf in range(1, 17))
        sides = " ".join(f"{leaf}{letter}" for leaf in range(1, 17) for letter in "ab")
        self.assertEqual(judged(f"16\no {leaves}\nh {sides}\n16 < 10\n10b > 16a\n9a | 16b\n16 = 0\n"), [6])

    def test_the_longest_findings(self):
        sides = " ".join(f"{leaf}{letter}" for leaf in range(1, 17) for letter in "ab")
        self.assertEqual(judged("16\n" + f"! h {sides}\n" * 64), [64])


class Faults(unittest.TestCase):
    def faults(self, *marked_texts):
        for marked in marked_texts:
            with self.subTest(marked):
                text, place = unmarked(marked)
                self.assertEqual(judged(text), [-6, place])

    def test_how_many_leaves(self):
        self.faults("@0\n", "@17\n", "@99\n", "@100\n", "@999\n", "@0", "@17", "@123", "@17x", "@0x", "@0 \n")
        self.faults("100@0\n", "123@4", "0@1\n", "0@0\n", "0@16\n", "0@0")
        self.faults("@x\n", "@\n", "@ 1\n", "@-1\n", "@+1\n", "1@ \n", "1@a\n", "1@\r\n", "16@x")

    def test_numbers_of_a_leaf(self):
        self.faults("3\n@4 < 1\n", "3\n@12 < 1\n", "3\n@123 < 1\n", "3\n123@4 < 1\n", "3\n0@1 < 2\n", "3\n0@0 < 2\n")
        self.faults("3\n1 < @4\n", "3\n1 < @12\n", "3\n1 < @123\n", "3\n1 < 123@4\n", "3\n1 < 0@2\n")
        self.faults("16\n@17 = 0\n", "16\n1 = @17\n", "16\n1 ~ @17\n", "16\n1 ~ @160\n", "1\n@2a ^\n", "1\n@10a ^\n")
        self.faults("3\n@4a > 1a\n", "3\n1a > @4a\n", "3\n1a | @4a\n", "3\n1a > 0@2a\n", "3\n1a | 100@0a\n")
        self.faults("3\no @4 5\n", "3\no 1 @4\n", "3\no 1 2 @100\n", "3\no 0@1 2\n", "3\no 1 0@2\n", "3\no 1 200@0\n")
        self.faults("3\nh @4a\n", "3\nh 1a @4a\n", "3\nh 1a 0@2a\n", "3\nh 1a 222@2a\n", "3\n! @4 < 1\n")

    def test_no_leaf_is_0_but_in_alone(self):
        self.faults("3\n@0 = 1\n", "3\n@0 = 0\n", "3\n@0 < 1\n", "3\n@0 ~ 1\n", "3\n1 < @0\n", "3\n1 ~ @0\n")
        self.faults("3\n@0a ^\n", "3\n@0a > 1a\n", "3\n1a > @0a\n", "3\n1a | @0a\n", "3\n@0\n", "3\n@0")
        self.faults("3\no @0 1\n", "3\no 1 @0\n", "3\nh @0a\n", "3\nh 1a @0a\n", "3\n! @0 = 1\n", "3\n! 1 < @0\n")
        self.faults("3\n1 = 0@0\n", "3\n1 = 0@2\n", "3\n1 = 0@a\n", "3\n1 = 0@ \n", "3\n! 1 = 0@1\n")

    def test_a_number_is_looked_at_before_what_follows(self):
        self.faults("3\n@4x", "3\n@4", "3\n1 < @4x", "3\n1 < @4", "3\n1 < @1x", "3\n1 < @1", "3\n1 = @1", "3\n1 ~ @1x")
        self.faults("3\no 2 @1x", "3\no 2 @1", "3\no 2 @2", "3\no 1 @5", "3\nh @5", "3\nh @5x", "3\n1a > @5", "3\n1a | @5x")

    def test_a_side_is_looked_at_behind_its_letter(self):
        self.faults("3\n1a > @1a", "3\n1a > @1ax", "3\n1a > 1@x", "3\n1a > 1@", "3\n1a | @1b", "3\n1a | @1ax")
        self.faults("3\n1a | 1@x", "3\n1a | 1@", "3\nh 2a @1b", "3\nh 2a @1bx", "3\nh 2a 1@x", "3\nh 2a 1@", "3\nh 2a 1@\n")

    def test_the_same_side_or_leaf(self):
        self.faults("3\n1a > @1a\n", "3\n3b > @3b\n", "16\n16b > @16b\n", "3\n! 2a > @2a\n")
        self.faults("3\n1a | @1a\n", "3\n1a | @1b\n", "3\n2b | @2a\n", "3\n! 2b | @2b\n", "16\n12a | @12b\n")
        self.faults("3\n1 = @1\n", "3\n! 3 = @3\n", "3\n1 < @1\n", "3\n! 2 < @2\n", "3\n1 ~ @1\n", "3\n! 3 ~ @3\n")
        self.faults("16\n16 = @16\n", "16\n12 < @12\n", "16\n10 ~ @10\n")

    def test_leaves_that_do_not_rise(self):
        self.faults("3\no 1 @1\n", "3\no 2 @1\n", "3\no 1 3 @2\n", "3\no 1 3 @3\n", "3\no 2 3 @1\n", "3\n! o 3 @2 1\n")
        self.faults("16\no 10 @9\n", "16\no 2 10 @3\n", "16\no 9 10 @10\n")

    def test_sides_that_do_not_rise(self):
        self.faults("3\nh 1a @1a\n", "3\nh 1b @1a\n", "3\nh 1b @1b\n", "3\nh 2a @1a\n", "3\nh 2a @1b\n", "3\nh 1a 2b @2a\n")
        self.faults("3\n! h 1a 2a 3a @2b\n", "16\nh 10a @9b\n", "16\nh 9b 10a @2a\n", "16\nh 16b @16a\n")

    def test_more_than_64_findings(self):
        full = "1\n" + "1a ^\n" * 64
        self.faults(full + "@1a ^\n", full + "@\n", full + "@ ", full + "@!", full + "@0", full + "@x", full + "@\n\n")

    def test_a_fault_among_many_findings(self):
        many = "2\n" + "! 1 < 2\n" * 63
        self.faults(many + "1 < @1\n", many + "1 < 2@", many + "@\n", many + "1 < 2@x\n1 < 1\n")

    def test_what_cannot_begin_a_line(self):
        self.faults("3\n@\n", "3\n@ 1a ^\n", "3\n@a\n", "3\n@x", "3\n@> 1a\n", "3\n@^\n", "3\n@O 1 2\n", "3\n@H 1a\n")
        self.faults("3\n1a ^\n@\n", "3\n1a ^\n@ \n", "3\n1a ^\n@-1a ^\n")

    def test_what_cannot_stand_in_a_line(self):
        self.faults("3\n1a @x", "3\n1@> 2\n", "3\n1@c ^\n", "3\n1@A ^\n", "3\n1@\n", "3\n1@=2\n", "3\n1@^\n")
        self.faults("3\n1a@^\n", "3\n1a@b ^\n", "3\n1a@2\n", "3\n1a@\n", "3\n1a @ ^\n", "3\n1a @= 2\n", "3\n1a @< 2\n")
        self.faults("3\n1a @~ 2a\n", "3\n1a @\n", "3\n1a >@2a\n", "3\n1a > @ 2a\n", "3\n1a > @\n", "3\n1a > @a\n")
        self.faults("3\n1a > 2@\n", "3\n1a > 2@c\n", "3\n1a > 2a@ \n", "3\n1a > 2a@b\n", "3\n1a > 2a@ 3a\n", "3\n1a |@2a\n")
        self.faults("3\n1a | 2a@ \n", "3\n1a ^@ \n", "3\n1a ^@ 2a\n", "3\n1 @ < 2\n", "3\n1 @> 2\n", "3\n1 @| 2\n", "3\n1 @^\n")
        self.faults("3\n1 <@2\n", "3\n1 < @ 2\n", "3\n1 < @\n", "3\n1 < 2@a\n", "3\n1 < 2@ \n", "3\n1 = 2@b\n", "3\n1 ~ 2@ 3\n")

    def test_what_cannot_stand_behind_a_bang(self):
        self.faults("3\n!@1a ^\n", "3\n! @ 1a ^\n", "3\n! @! 1a ^\n", "3\n!@! 1a ^\n", "3\n!@\n", "3\n! @\n", "3\n! @x\n")

    def test_what_cannot_stand_behind_o(self):
        self.faults("3\no@1 2\n", "3\no@\n", "3\no @ 1 2\n", "3\no @\n", "3\no 1@\n", "3\no 1 @\n", "3\no 1@a 2\n")
        self.faults("3\no 1 2@a\n", "3\no 1 2 @\n", "3\no 1 @ 2\n", "3\no 1@,2\n", "3\n! o 1@\n", "3\no @o 1 2\n")

    def test_what_cannot_stand_behind_h(self):
        self.faults("3\nh@1a\n", "3\nh@\n", "3\nh @ 1a\n", "3\nh @\n", "3\nh 1@\n", "3\nh 1@ 2a\n", "3\nh 1a @\n")
        self.faults("3\nh 1a@b\n", "3\nh 1a @ 2a\n", "3\nh 1a@,2a\n", "3\nh 1a 2@\n", "3\n! h @\n", "3\nh 1@c\n")

    def test_bytes_that_can_stand_nowhere(self):
        starts = ("", "1", "3\n", "3\n1", "3\n1a", "3\n1a ", "3\n1a ^", "3\n1 < ", "3\n!", "3\n! ", "3\no", "3\no 1 2", "3\nh 1a")
        for worth in range(256):
            if worth not in as_bytes("0123456789ab!>|^=<~oh \n"):
                for start in starts:
                    self.assertEqual(judge(as_bytes(start) + [worth, 10]), [-6, len(start)])

    def test_texts_that_end_too_early(self):
        self.faults("@", "1@", "16@")
        for finding in ("1a > 2b", "1a | 2b", "1a ^", "1 = 2", "1 = 0", "1 < 2", "1 ~ 2", "o 1 2 3", "h 1a 1b 3a"):
            for start in ("3\n", "3\n! ", "3\n2 < 1\n", "16\n"):
                for end in range(1, len(finding) + 1):
                    self.faults(start + finding[:end] + "@")
        self.faults("3\n!@", "3\n! @", "3\n2 < 1\n!@")


class Lengths(unittest.TestCase):
    def test_too_long(self):
        for length in (8193, 8194, 16384):
            self.assertEqual(judge([49] * length), [-2])
            self.assertEqual(judge([255] * length), [-2])
            self.assertEqual(judge((as_bytes("1\n1a ^\n") * length)[:length]), [-2])

    def test_not_too_long(self):
        self.assertEqual(judge([49] * 8192), [-6, 3])
        self.assertEqual(judge([10] * 8192), [-6, 0])
        full = as_bytes("1\n" + "1a ^\n" * 64)
        self.assertEqual(judge(full + [49] * (8192 - len(full))), [-6, len(full)])
        self.assertEqual(judge(full + [49] * (8193 - len(full))), [-2])


class Calls(unittest.TestCase):
    texts = ["3\n", "3\n1a ^\n! o 1 2\n", "3\n1 < 1\n", "", "17\n", "1" * 8193]

    def test_what_is_handed_in_stays(self):
        for text in self.texts:
            t = Guarded(as_bytes(text))
            judge(t)
            self.assertEqual(t, as_bytes(text))

    def test_the_answer_is_a_list_of_int(self):
        for text in self.texts:
            answer = judged(text)
            self.assertIs(type(answer), list)
            for number in answer:
                self.assertIs(type(number), int)

    def test_a_call_made_again_answers_the_same(self):
        first = [judged(text) for text in self.texts]
        for answer in [judged(text) for text in self.texts]:
            answer.append(7)
        self.assertEqual([judged(text) for text in self.texts], first)
        self.assertEqual([judged(text) for text in reversed(self.texts)], first[::-1])


if __name__ == "__main__":
    unittest.main()
