"""Point 43, and what point 2 says of traces."""

import itertools
import random
import unittest

from firstbreach.errors import BadText
from firstbreach.traces import as_bytes, as_text, read_row, read_trace, row_text, write_trace
from joints_model import drawn_joint_run, drawn_level

ROW = ((1, (-1, 0), 1, 0), ())
TEXT = "1 .0 1 ."
# Words that a text of a joint row may have, and some that it never has.
WORDS = ("0", "1", "2", "-", ".", "+", ".0", "1.1", "(", ")", "", "0000", "x", "-1", "()", "..", "01")


def told_texts():
    """All short texts of joint rows, their rows without guests, by the words of point 43."""
    comes = [()] + [one for count in (1, 2, 3) for one in itertools.product((-1, 0, 1), repeat=count)]
    for bit, coming, ran, more in itertools.product((0, 1), comes, (-1, 0, 1, 2), (0, 1)):
        entries = "".join("." if node == -1 else str(node) for node in coming) or "-"
        text = " ".join([str(bit), entries, "." if ran == -1 else str(ran), ".+"[more]])
        yield text, ((bit, coming, ran, more), ())


def drawn_row(draw, rows):
    """A joint row of this many rows, in a drawn form."""
    own = (draw.randint(0, 1), tuple(draw.choice((-1, 0, 1)) for _ in range(draw.randint(0, 3))),
           draw.randint(-1, 2), draw.randint(0, 1))
    left = rows - 1
    guests = []
    while left:
        count = draw.randint(1, left)
        guests.append(drawn_row(draw, count))
        left -= count
    return (own, tuple(guests))


def is_beginning(words):
    """Whether these are the first words of the text of some joint row, by a search for the words that follow."""
    return any(is_whole(words + more) for more in endings(words))


def endings(words):
    """Words that may complete a text, whatever it is."""
    rest = [[], ["."], [".", "."], ["-", ".", "."], ["1", "-", ".", "."]]
    return [one + [")"] * count for one in rest for count in range(3)]


def is_whole(words):
    """Whether these words are the text of a joint row, taking its rows off from the end."""
    words = list(words)
    rows = 0
    while "(" in words:
        # The last bracket that opens belongs to a joint row without guests.
        at = len(words) - 1 - words[::-1].index("(")
        inner = words[at + 1:at + 5]
        if not is_row(inner) or words[at + 5:at + 6] != [")"]:
            return False
        del words[at:at + 6]
        rows += 1
        if at < 4:
            return False
    return rows <= 2 and is_row(words)


def is_row(words):
    if len(words) != 4:
        return False
    comes = words[1] == "-" or (1 <= len(words[1]) <= 3 and set(words[1]) <= set(".01"))
    return words[0] in ("0", "1") and comes and words[2] in (".", "0", "1", "2") and words[3] in (".", "+")


def told_word(text):
    """The number of the wrong word, or 0."""
    words = text.split(" ")
    for count in range(1, len(words) + 1):
        if not is_beginning(words[:count]):
            return count
    return 0 if is_whole(words) else len(words) + 1


class RowTest(unittest.TestCase):
    def bad(self, text, word):
        with self.assertRaises(BadText) as caught:
            read_row(text)
        self.assertEqual((caught.exception.line, caught.exception.word), (1, word), repr(text))

    def test_texts_of_single_rows(self):
        for row, text in (
            (ROW, TEXT),
            (((0, (), -1, 0), ()), "0 - . ."),
            (((1, (-1,), 0, 1), ()), "1 . 0 +"),
            (((1, (1, 0, -1), 2, 0), ()), "1 10. 2 ."),
        ):
            self.assertEqual(row_text(row), text)
            self.assertEqual(read_row(text), row)

    def test_guests(self):
        inner = ((1, (0,), -1, 0), ())
        for row, text in (
            ((ROW[0], (inner,)), "1 .0 1 . ( 1 0 . . )"),
            ((ROW[0], (inner, ROW)), "1 .0 1 . ( 1 0 . . ) ( 1 .0 1 . )"),
            ((ROW[0], ((ROW[0], (inner,)),)), "1 .0 1 . ( 1 .0 1 . ( 1 0 . . ) )"),
        ):
            self.assertEqual(row_text(row), text)
            self.assertEqual(read_row(text), row)

    def test_all_single_rows(self):
        count = 0
        for text, row in told_texts():
            self.assertEqual(row_text(row), text)
            self.assertEqual(read_row(text), row)
            count += 1
        self.assertEqual(count, 2 * 40 * 4 * 2)

    def test_what_is_not_possible_for_a_level_has_a_text(self):
        for row in (((0, (), 2, 1), (((1, (1, 1, 1), -1, 1), ()),)), ((0, (0,), 1, 1), ())):
            self.assertEqual(read_row(row_text(row)), row)

    def test_lists_may_stand_for_tuples(self):
        self.assertEqual(row_text(((1, [-1, 0], 1, 0), [((1, [], -1, 0), [])])), "1 .0 1 . ( 1 - . . )")

    def test_the_kinds_of_what_is_read(self):
        row = read_row("1 .0 1 . ( 1 0 . . )")
        self.assertIs(type(row[0][1]), tuple)
        self.assertIs(type(row[1]), tuple)
        self.assertIs(type(row[1][0]), tuple)

    def test_empty_words(self):
        for text, word in (("", 1), (" ", 1), ("1", 2), ("1 ", 2), ("1  .0 1 .", 2), (" 1 .0 1 .", 1), ("1 .0 1 . ", 5),
                           ("1 .0 1  .", 4), ("1 .0 1 .  ", 5)):
            self.bad(text, word)

    def test_a_wrong_word_at_each_place(self):
        for text, word in (
            ("2 .0 1 .", 1), (". .0 1 .", 1), ("( .0 1 .", 1),
            ("1 -- 1 .", 2), ("1 .2 1 .", 2), ("1 0000 1 .", 2), ("1 -1 1 .", 2), ("1 + 1 .", 2),
            ("1 .0 3 .", 3), ("1 .0 - .", 3), ("1 .0 00 .", 3), ("1 .0 -1 .", 3),
            ("1 .0 1 0", 4), ("1 .0 1 -", 4), ("1 .0 1 ++", 4), ("1 .0 1 .\n", 4),
            ("1 .0 1 . )", 5), ("1 .0 1 . x", 5), ("1 .0 1 . 1", 5),
            ("1 .0 1 . ( 2", 6), ("1 .0 1 . ( ( 1", 6), ("1 .0 1 . ( )", 6),
            ("1 .0 1 . ( 1 . . . ) )", 11), ("1 .0 1 . ( 1 . . . ) 1", 11), ("1 .0 1 . ( 1 . . . x", 10),
        ):
            self.bad(text, word)

    def test_words_missing(self):
        whole = "1 .0 1 . ( 1 .0 1 . ( 1 0 . . ) )".split(" ")
        for count in range(1, len(whole)):
            if count != 4:
                self.bad(" ".join(whole[:count]), count + 1)

    def test_more_than_three_rows(self):
        inner = "( 1 . . . )"
        self.bad("1 . . . " + " ".join([inner] * 3), 17)
        self.bad("1 . . . ( 1 . . . ( 1 . . . ( 1 . . . ) ) )", 15)
        self.bad("1 . . . ( 1 . . . ( 1 . . . ) ( 1 . . . ) )", 16)
        self.bad("1 . . . ( 1 . . . ( 1 . . . ) ) (", 17)
        self.bad("1 . . . ( 1 . . . ) ( 1 . . . (", 16)

    def test_drawn_texts(self):
        draw = random.Random(1)
        wrong = 0
        for _ in range(3000):
            words = row_text(drawn_row(draw, draw.randint(1, 3))).split(" ")
            for _ in range(draw.randint(0, 2)):
                at = draw.randint(0, len(words) - 1)
                kind = draw.randint(0, 2)
                if kind == 0:
                    words[at] = draw.choice(WORDS)
                elif kind == 1:
                    words.insert(at, draw.choice(WORDS))
                elif len(words) > 1:
                    del words[at]
            text = " ".join(words)
            word = told_word(text)
            if word:
                wrong += 1
                self.bad(text, word)
            else:
                self.assertEqual(row_text(read_row(text)), text)
        self.assertGreater(wrong, 1000)

    def test_drawn_rows(self):
        draw = random.Random(2)
        for _ in range(500):
            row = drawn_row(draw, draw.randint(1, 3))
            self.assertEqual(read_row(row_text(row)), row)


class TraceTest(unittest.TestCase):
    def bad(self, data, line, word):
        with self.assertRaises(BadText) as caught:
            read_trace(data)
        self.assertEqual((caught.exception.line, caught.exception.word), (line, word), data)

    def test_traces(self):
        rows = [ROW, ((1, (0,), 0, 1), (ROW,))]
        data = b"1 .0 1 .\n1 0 0 + ( 1 .0 1 . )\n"
        self.assertEqual(write_trace(rows), data)
        self.assertEqual(write_trace(tuple(rows)), data)
        self.assertEqual(read_trace(data), rows)
        self.assertIs(type(read_trace(data)), list)

    def test_the_empty_trace(self):
        self.assertEqual(write_trace([]), b"")
        self.assertEqual(read_trace(b""), [])

    def test_a_missing_line_feed(self):
        self.bad(b"1 .0 1 .", 1, 5)
        self.bad(b"1 .0 1 .\n1 .0 1 . ( 1 - . . )", 2, 11)
        self.bad(b"1 .0 1 .\n1 .0 1", 2, 4)
        self.bad(b"1 .0 1 .\n1 .0 x .", 2, 3)
        self.bad(b"x\n1 .0 1 .", 1, 1)

    def test_empty_lines(self):
        self.bad(b"\n", 1, 1)
        self.bad(b"1 .0 1 .\n\n", 2, 1)
        self.bad(b"\n1 .0 1 .\n", 1, 1)
        self.bad(b"1 .0 1 .\n\n1 .0 1 .\n", 2, 1)
        self.bad(b"1 .0 1 .\n ", 2, 1)

    def test_the_first_wrong_line(self):
        self.bad(b"1 .0 1 .\n1 .0 1\n2\n", 2, 4)
        self.bad(b"1 .0 1 .\n1 .0 1 .\n1 .0 1 . )\n", 3, 5)
        self.bad(b"1 .0 1 .\r\n", 1, 4)

    def test_bytes_and_texts(self):
        self.assertEqual(as_bytes("core a\n"), b"core a\n")
        self.assertEqual(as_text(b"core a\n"), "core a\n")
        self.assertEqual((as_bytes(""), as_text(b"")), (b"", ""))

    def test_drawn_runs(self):
        for seed in range(60):
            level = drawn_level(seed)
            rows, _ = drawn_joint_run(level, seed, 5)
            data = write_trace(rows)
            self.assertEqual(read_trace(data), rows)
            self.assertEqual(data.count(b"\n"), len(rows))
            self.assertEqual(write_trace(read_trace(data)), data)


if __name__ == "__main__":
    unittest.main()
