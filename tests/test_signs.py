"""[4]: pieces of a text."""

import random
import unittest

from handlepairs.errors import BadText, Unfit
from handlepairs.signs import number_of, piece_of, pieces, text_of
from tests.drawn import drawn_piece, drawn_pieces, drawn_text

PIECE_SIGNS = set("abcdefghijklmnopqrstuvwxyz0123456789-.")


def pieces_by_signs(text):
    """What pieces tells, found sign by sign."""
    found, word, line, in_remark = [], "", 0, False
    for sign in text + "\n":
        if sign in PIECE_SIGNS and not in_remark:
            word += sign
            continue
        if word:
            found.append((word, line))
            word = ""
        in_remark = sign != "\n" and (in_remark or sign == "#")
        line += sign == "\n"
    return found


class PiecesTest(unittest.TestCase):
    def check_bad(self, text, line):
        with self.assertRaises(BadText) as caught:
            pieces(text)
        self.assertEqual(vars(caught.exception), {"line": line})

    def test_ordinary(self):
        self.assertEqual(pieces("ab c\n  -1 .\n"), [("ab", 0), ("c", 0), ("-1", 1), (".", 1)])
        self.assertEqual(pieces("az09-."), [("az09-.", 0)])

    def test_lines_without_pieces(self):
        for text in ("", " ", "\n", "\n\n\n", "   \n ", "#", "# all of it", "#\n#", "#A/\n # B"):
            with self.subTest(text=text):
                self.assertEqual(pieces(text), [])
        self.assertEqual(pieces("\n\na\n\n b"), [("a", 2), ("b", 4)])

    def test_remarks(self):
        self.assertEqual(pieces("a#b c\nd"), [("a", 0), ("d", 1)])
        self.assertEqual(pieces("a # A / ! # ~\nd#"), [("a", 0), ("d", 1)])
        self.assertEqual(pieces("#a\n-"), [("-", 1)])

    def test_a_piece_of_whatever_length(self):
        self.assertEqual(pieces("a" * 100000 + " b"), [("a" * 100000, 0), ("b", 0)])
        self.assertEqual(pieces("a " * 50000), [("a", 0)] * 50000)
        self.assertEqual(pieces("\n" * 50000 + "z"), [("z", 50000)])

    def test_every_sign(self):
        for code in range(32, 127):
            sign = chr(code)
            for text, line in ((sign, 0), ("\n" + sign, 1), ("a\n\nb" + sign + "c\nA", 2)):
                with self.subTest(text=text):
                    if sign in PIECE_SIGNS or sign in " #":
                        if line < 2:
                            self.assertEqual(pieces(text), pieces_by_signs(text))
                        else:
                            self.check_bad(text, 3)
                    else:
                        self.check_bad(text, line)
            self.assertEqual(pieces("a #" + sign), [("a", 0)])

    def test_the_first_line_with_a_fault(self):
        self.check_bad("a\nb B\nC", 1)
        self.check_bad("# A\n\n_ # B", 2)
        self.check_bad("A#\nB", 0)
        self.check_bad("field 0 1 2,3", 0)
        self.check_bad("a" * 1000 + "\n" * 1000 + "=", 1000)

    def test_drawn_texts(self):
        rng = random.Random(4)
        for _ in range(600):
            text = drawn_text(rng)
            with self.subTest(text=text):
                self.assertEqual(pieces(text), pieces_by_signs(text))

    def test_drawn_texts_with_a_fault(self):
        rng = random.Random(5)
        for _ in range(400):
            rows = drawn_text(rng).split("\n")
            at = rng.randrange(len(rows))
            rows[at] = rng.choice("AZ_/!,+%=:;~'\"`@^{[") + rows[at]
            rest = rows[:at + 1] + [row + " B" for row in rows[at + 1:]]
            with self.subTest(rows=rest):
                self.check_bad("\n".join(rest), at)

    def test_more_blanks_and_remarks_tell_the_same(self):
        rng = random.Random(6)
        for _ in range(300):
            told = drawn_pieces(rng)
            rows = text_of(told).split("\n")
            wider = []
            for row in rows:
                row = (" " * rng.randrange(1, 4)).join(row.split(" "))
                row = " " * rng.randrange(3) + row + " " * rng.randrange(3)
                wider.append(row + rng.choice(("", "#", "# a B", "#/0 #")))
            with self.subTest(rows=wider):
                self.assertEqual(pieces("\n".join(wider)), told)

    def test_a_line_break_put_in_puts_later_ones_one_line_on(self):
        rng = random.Random(7)
        for _ in range(300):
            told = drawn_pieces(rng)
            if len(told) < 2:
                continue
            at = rng.randrange(1, len(told))
            head, tail = text_of(told[:at]).rstrip("\n"), text_of(told[at:]).lstrip("\n")
            gap = told[at][1] - told[at - 1][1]
            between = "\n" * gap if gap else " "
            self.assertEqual(pieces(head + between + tail), told)
            moved = told[:at] + [(piece, line + 1) for piece, line in told[at:]]
            self.assertEqual(pieces(head + between + "\n" + tail), moved)
            self.assertEqual(pieces(head + "\n" + between + tail), moved)


class TextOfTest(unittest.TestCase):
    def test_ordinary(self):
        self.assertEqual(text_of([("a", 0), ("b", 0), ("c", 1)]), "a b\nc\n")
        self.assertEqual(text_of([("a", 2), ("-", 2), ("c", 5)]), "\n\na -\n\n\nc\n")
        self.assertEqual(text_of([]), "")
        self.assertEqual(text_of(()), "")

    def test_a_late_line(self):
        self.assertEqual(text_of([("a", 10 ** 6)]), "\n" * 10 ** 6 + "a\n")

    def test_lists_and_tuples(self):
        self.assertEqual(text_of((["a", 0], ("b", 1))), "a\nb\n")

    def test_drawn_pieces_come_back(self):
        rng = random.Random(8)
        for _ in range(500):
            told = drawn_pieces(rng)
            with self.subTest(told=told):
                text = text_of(told)
                self.assertEqual(pieces(text), told)
                rows = text.split("\n")
                self.assertEqual(len(rows) - 1, told[-1][1] + 1 if told else 0)
                for line, row in enumerate(rows):
                    self.assertEqual(row, " ".join(piece for piece, at in told if at == line))

    def test_what_are_no_pieces(self):
        for told in (
            None, 0, "a", {}, 1.5, [0], ["ab"], [("a",)], [("a", 0, 0)], [("a", -1)], [("a", True)], [("a", False)],
            [("a", "0")], [("a", None)], [("a", 0.0)], [(0, 0)], [("", 0)], [("A", 0)], [("a b", 0)], [("a\n", 0)],
            [("#", 0)], [("a", 1), ("b", 0)], [("a", 0), ("b", 2), ("c", 1)], [("a", 0), None], [("a", 0), ()],
            [(("a",), 0)], [("a", (0,))], [(None, 0)], [("a", 0), ("/", 0)], [(["a"], 0)], ("a", 0), [[("a", 0)]],
        ):
            with self.subTest(told=told):
                self.assertRaises(Unfit, text_of, told)


class NumberPieceTest(unittest.TestCase):
    def test_number_pieces(self):
        for number in (0, 1, 9, 10, 100, 120, 999999999999, 100000000000):
            self.assertEqual(number_of(str(number)), number)
            self.assertEqual(piece_of(number), str(number))
            if number:
                self.assertEqual(number_of("-" + str(number)), -number)
                self.assertEqual(piece_of(-number), "-" + str(number))

    def test_one_to_twelve_figures(self):
        for many in range(1, 13):
            self.assertEqual(number_of("9" * many), 10 ** many - 1)
            self.assertEqual(number_of("-1" + "0" * (many - 1)), -10 ** (many - 1))
        for many in (13, 14, 20, 5000):
            self.assertIsNone(number_of("9" * many))
            self.assertIsNone(number_of("-" + "9" * many))
            self.assertIsNone(number_of("0" * many))

    def test_none(self):
        for piece in (
            "", "-", "--1", "-0", "00", "01", "-01", "-00", "1-", "1.0", ".", "1.", ".5", "a", "1a", "a1", "0x1", "+1",
            " 1", "1 ", "1\n", "\n", "1_0", "1e3", "-a", "0-", "\u0663", "\u00b2", "1\u0663", "--", "- 1",
        ):
            with self.subTest(piece=piece):
                self.assertIsNone(number_of(piece))

    def test_drawn_pieces(self):
        rng = random.Random(9)
        for _ in range(2000):
            piece = "".join(rng.choice("0123-.a") for _ in range(rng.randrange(1, 5)))
            figures = piece[1:] if piece[0] == "-" else piece
            is_one = figures.isdigit() and piece == str(int(piece))
            with self.subTest(piece=piece):
                told = number_of(piece)
                self.assertEqual(told, int(piece) if is_one else None)
        for _ in range(500):
            self.assertIsNone(number_of(drawn_piece(rng) + "x"))

    def test_numbers_come_back(self):
        rng = random.Random(10)
        for _ in range(500):
            number = rng.randrange(-10 ** rng.randrange(1, 13) + 1, 10 ** rng.randrange(1, 13))
            self.assertEqual(number_of(piece_of(number)), number)
            self.assertEqual(pieces(piece_of(number)), [(piece_of(number), 0)])


if __name__ == "__main__":
    unittest.main()
