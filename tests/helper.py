"""What the tests share: texts as lists of bytes, books and findings made from the document's words, what holds by
these words, and the tests of every call on a text of findings and a text of a book.

A place in a text is marked by @."""

import itertools

from looseleavesdesk.findings import book, judge

MARK = "@"


def refuse(*args, **kwargs):
    raise AssertionError("what was handed in is changed")


class Guarded(list):
    """A list that can't be changed, so that a change is seen even if it is taken back."""

    append = extend = insert = remove = pop = clear = sort = reverse = refuse
    __setitem__ = __delitem__ = __iadd__ = __imul__ = refuse


def as_bytes(text):
    return list(text.encode("ascii"))


def judged(text):
    return judge(as_bytes(text))


def booked(findings, text):
    return book(as_bytes(findings), as_bytes(text))


def unmarked(text):
    """The text without its mark, and the place where that stood."""
    place = text.index(MARK)
    return text[:place] + text[place + 1:], place


def one_byte_edits(text, alphabet):
    """Every text that one byte left out, put in or changed makes of this one, and every beginning of it."""
    made = set()
    for place in range(len(text) + 1):
        made.add(text[:place])
        made.add(text[:place] + text[place + 1:])
        for sign in alphabet:
            made.add(text[:place] + sign + text[place:])
            made.add(text[:place] + sign + text[place + 1:])
    return sorted(made)


def leaves_from_1(count, letter="a"):
    return [f"{leaf}{letter}" for leaf in range(1, count + 1)]


def side_texts(leaves):
    return [f"{leaf}{letter}" for leaf in range(1, leaves + 1) for letter in "ab"]


def findings_text(leaves, findings):
    return "".join(f"{line}\n" for line in [leaves] + list(findings))


def finding_texts(leaves):
    """Every finding of so many leaves, made as the document's table tells them."""
    sides = side_texts(leaves)
    numbers = [str(leaf) for leaf in range(1, leaves + 1)]
    made = [f"{side} ^" for side in sides] + [f"{leaf} = 0" for leaf in numbers]
    for one, other in itertools.permutations(sides, 2):
        made.append(f"{one} > {other}")
        if one[:-1] != other[:-1]:
            made.append(f"{one} | {other}")
    for one, other in itertools.permutations(numbers, 2):
        made.extend([f"{one} = {other}", f"{one} < {other}", f"{one} ~ {other}"])
    for count in range(2, leaves + 1):
        made.extend("o " + " ".join(some) for some in itertools.combinations(numbers, count))
    for count in range(1, 2 * leaves + 1):
        made.extend("h " + " ".join(some) for some in itertools.combinations(sides, count))
    return made + ["! " + finding for finding in made]


def paired(signs):
    """Whether the signs of a gathering are paired: partners are taken out from within till none are left."""
    left = "".join(signs).replace("|", "")
    while "()" in left:
        left = left.replace("()", "")
    return left == ""


def ways_to_gather(leaves):
    """Every way to cut a row of so many leaves into gatherings, as a list of their lengths."""
    if leaves == 0:
        return [[]]
    return [[first] + rest for first in range(1, leaves + 1) for rest in ways_to_gather(leaves - first)]


def gathering_text(rows):
    return " ".join(
        ("(" if sign == "(" else "") + f"{leaf}{letter}" + (")" if sign == ")" else "") for leaf, letter, sign in rows
    )


def book_text(rows, lengths):
    """The text of a book of these leaves, each as (number, letter, sign), in gatherings of these lengths."""
    starts = [sum(lengths[:k]) for k in range(len(lengths))]
    return " / ".join(gathering_text(rows[start:start + length]) for start, length in zip(starts, lengths))


def book_texts(leaves):
    """Every book of so many leaves, as its text and how many gatherings it has."""
    made = {}
    orders = list(itertools.permutations(range(1, leaves + 1)))
    letters = list(itertools.product("ab", repeat=leaves))
    signs = list(itertools.product("|()", repeat=leaves))
    for lengths in ways_to_gather(leaves):
        starts = [sum(lengths[:k]) for k in range(len(lengths))]
        cuts = [slice(start, start + length) for start, length in zip(starts, lengths)]
        fitting = [some for some in signs if all(paired(some[cut]) for cut in cuts)]
        for order, fronts, some in itertools.product(orders, letters, fitting):
            made[book_text(list(zip(order, fronts, some)), lengths)] = len(lengths)
    return made


def some_signs(source, length):
    """Signs of a gathering of so many leaves that are paired."""
    signs = []
    waiting = 0
    for left in range(length, 0, -1):
        fitting = ["|"] * (waiting < left) + ["("] * (waiting + 2 <= left) + [")"] * (waiting > 0)
        signs.append(source.choice(fitting))
        waiting += {"|": 0, "(": 1, ")": -1}[signs[-1]]
    return signs


def some_book(source, leaves):
    """A book of so many leaves, as the source chooses."""
    lengths = []
    while sum(lengths) < leaves:
        lengths.append(source.randint(1, leaves - sum(lengths)))
    order = source.sample(range(1, leaves + 1), leaves)
    signs = [sign for length in lengths for sign in some_signs(source, length)]
    return book_text([(leaf, source.choice("ab"), sign) for leaf, sign in zip(order, signs)], lengths)


def some_finding(source, leaves):
    """A finding of so many leaves, two at the least, as the source chooses."""
    sign = source.choice(">|^=0<~oh")
    numbers = source.sample(range(1, leaves + 1), 2)
    one, other = [f"{number}{source.choice('ab')}" for number in numbers]
    if sign == "o":
        count = source.randint(2, leaves)
        told = "o " + " ".join(str(leaf) for leaf in sorted(source.sample(range(1, leaves + 1), count)))
    elif sign == "h":
        sides = side_texts(leaves)
        chosen = source.sample(sides, source.randint(1, len(sides)))
        told = "h " + " ".join(side for side in sides if side in chosen)
    elif sign in ">|":
        told = f"{one} {sign} {other}"
    elif sign == "^":
        told = f"{one} ^"
    else:
        told = f"{numbers[0]} = 0" if sign == "0" else f"{numbers[0]} {sign} {numbers[1]}"
    return source.choice(("", "! ")) + told


def gatherings_of(text):
    """A book's gatherings, each a list of its leaves as (number, letter, sign), all of them texts."""
    made = []
    for gathering in text.split(" / "):
        words = [(word.strip("()"), word[0] if word[0] == "(" else word[-1]) for word in gathering.split(" ")]
        made.append([(word[:-1], word[-1], sign if sign in "()" else "|") for word, sign in words])
    return made


def sides_of(text):
    """A book's sides in order, as texts."""
    made = []
    for number, letter, _ in itertools.chain.from_iterable(gatherings_of(text)):
        made += [number + letter, number + {"a": "b", "b": "a"}[letter]]
    return made


def partners_of(text):
    """Of each leaf of a book that isn't alone its partner, as texts: what stands between the two is paired."""
    found = {}
    for gathering in gatherings_of(text):
        signs = [sign for _, _, sign in gathering]
        for first, last in itertools.combinations(range(len(signs)), 2):
            if signs[first] == "(" and signs[last] == ")" and paired(signs[first + 1:last]):
                found[gathering[first][0]] = gathering[last][0]
                found[gathering[last][0]] = gathering[first][0]
    return found


def is_so(finding, text):
    """Whether the finding holds of the book, by the words of the document's table."""
    words = finding.split(" ")
    if words[0] == "!":
        return not is_so(finding[2:], text)
    sides = sides_of(text)
    fronts = sides[::2]
    leaves = [front[:-1] for front in fronts]
    meeting = list(zip(sides[1::2], fronts[1:]))
    if words[0] == "o":
        told = set(words[1:])
        return any(set(leaves[start:start + len(told)]) == told for start in range(len(leaves)))
    if words[0] == "h":
        return all((back in words[1:]) == (front in words[1:]) for back, front in meeting)
    one, sign, other = (words + [""])[:3]
    if sign == "^":
        return one in fronts
    if sign == ">":
        return (one, other) in zip(sides, sides[1:])
    if sign == "|":
        return (one, other) in meeting or (other, one) in meeting
    if sign == "=":
        return partners_of(text).get(one, "0") == other
    if sign == "<":
        return leaves.index(one) < leaves.index(other)
    gatherings = [[number for number, _, _ in gathering] for gathering in gatherings_of(text)]
    return any(one in gathering and other in gathering for gathering in gatherings)


class CallsOfBoth:
    """What is so of every call on a text of findings and a text of a book that tells no place of a fault.

    A test class says by call(t, u) how it is called so that it answers, and by none_such(t, u), if -4 is among its
    refusals, how it is called so that it answers -4."""

    none_such = None
    good = [("2\n", "1a / 2b"), ("2\n1 < 2\n1a ^\n", "(1a 2b)"), ("2\n! 1 < 2\n", "2a 1b"), ("1\n1b ^\n", "1a")]
    at_fault = ["", "0\n", "17\n", "2", "x", "2\n1 < 1\n", "2\n1a > 2", "2\n3 < 1\n", "1\n" + "1a ^\n" * 65]
    no_books = ["", "1a", "(1a", "1a 1b", "1a 2a 3a", "(1a / 2b)", "1a 2a ", "1a) 2a", "x", "1a  2a", "1a/2a", "3a 1a"]

    def calls(self):
        return [self.call] if self.none_such is None else [self.call, self.none_such]

    def test_findings_at_fault(self):
        for call in self.calls():
            for t in self.at_fault:
                for u in ["1a 2a", "(1b 2a)"] + self.no_books:
                    self.assertEqual(call(as_bytes(t), as_bytes(u)), [-6], (t, u))

    def test_no_book_of_these_leaves(self):
        for call in self.calls():
            for u in self.no_books:
                for t in ("2\n", "2\n1 < 2\n", "2\n! o 1 2\n1b ^\n"):
                    self.assertEqual(call(as_bytes(t), as_bytes(u)), [-3], (t, u))
            self.assertEqual(call(as_bytes("1\n"), as_bytes("1a 2a")), [-3])
            self.assertEqual(call(as_bytes("3\n"), as_bytes("1a 2a")), [-3])

    def test_none_such_is_last(self):
        if self.none_such is not None:
            for t, u in self.good:
                self.assertEqual(self.none_such(as_bytes(t), as_bytes(u)), [-4], (t, u))

    def test_too_long(self):
        for call in self.calls():
            for length in (8193, 8194, 16384):
                long = [49] * length
                for text in ("1\n", "1\n1a ^\n", "0\n", "", "1a", "x"):
                    self.assertEqual(call(long, as_bytes(text)), [-2])
                    self.assertEqual(call(as_bytes(text), long), [-2])
                self.assertEqual(call(long, long), [-2])

    def test_not_too_long(self):
        for call in self.calls():
            self.assertEqual(call([49] * 8192, as_bytes("1a")), [-6])
            self.assertEqual(call([49] * 8192, [49] * 8192), [-6])
            self.assertEqual(call(as_bytes("1\n"), [49] * 8192), [-3])
            self.assertEqual(call(as_bytes("1\n"), as_bytes("1a" + " " * 8190)), [-3])

    def test_what_is_handed_in_stays(self):
        texts = self.good + [(t, "1a 2a") for t in self.at_fault] + [("2\n", u) for u in self.no_books]
        for call in self.calls():
            for t, u in texts + [("1" * 8193, "1a"), ("1\n", "1" * 8193)]:
                given = Guarded(as_bytes(t)), Guarded(as_bytes(u))
                call(*given)
                self.assertEqual(given, (as_bytes(t), as_bytes(u)))

    def answers(self):
        texts = self.good + [("", ""), ("2\n", "1a"), ("1" * 8193, "1a")]
        return [call(as_bytes(t), as_bytes(u)) for t, u in texts for call in self.calls()]

    def test_the_answer_is_a_list_of_int(self):
        for answer in self.answers():
            self.assertIs(type(answer), list)
            self.assertEqual({type(number) for number in answer}, {int})

    def test_a_call_made_again_answers_the_same(self):
        first = self.answers()
        for answer in self.answers():
            answer.append(7)
        self.assertEqual(self.answers(), first)
