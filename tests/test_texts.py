"""[20]: sheets, told by texts."""

import random
import re
import unittest

from handlepairs.errors import BadText, Unfit
from handlepairs.texts import is_sheet, read_sheet, read_skin, sheet_text, skin_text
from tests.drawn import (
    BALL_OF_ONE, ONE, PILLOW, TWIN, as_lists, drawn_skins, exchanged, nest, odd_things, raised, ring_of, small_skins,
)
from tests.shapes import drawn_arrows, drawn_lot, drawn_worths, many_skins, skin_with_handles

BALL_TEXT = "field 1 0 1 3 1 2 1 1\nfield 0 0 0 3 0 2 0 1\n"
SHEET = (PILLOW, ((1, -2, 0, 5),), ((0, 0, 1, 1), (0, 0, 0, 0)), ((0,), (), (1, 3)))
NUMBER = re.compile(r"(0|-?[1-9][0-9]{0,11})\Z")


def drawn_sheet(rng, skin):
    return (
        skin, tuple(drawn_worths(rng, skin) for _ in range(rng.randrange(3))),
        tuple(drawn_arrows(rng, skin) for _ in range(rng.randrange(3))),
        tuple(drawn_lot(rng, skin) for _ in range(rng.randrange(3))),
    )


def slow_fault(text):
    """The line of the first fault of a text, as the document tells it; None if it tells a SHEET."""
    lines = [re.sub("#.*", "", line) for line in text.split("\n")]
    for at, line in enumerate(lines):
        if not re.fullmatch("[-a-z0-9. ]*", line):
            return at
    rows = [(at, line.split()) for at, line in enumerate(lines) if line.split()]
    if not rows:
        return 0
    if rows[0][1][0] != "field":
        return rows[0][0]
    fields = []
    for at, words in rows:
        if words[0] != "field":
            break
        if len(words) != 9 or not all(map(NUMBER.match, words[1:])):
            return at
        numbers = list(map(int, words[1:]))
        if min(numbers) < 0 or max(numbers[1::2]) > 3:
            return at
        fields.append((at, numbers))
    if not slow_is_skin([numbers for _, numbers in fields]):
        return fields[-1][0]
    return fault_behind(rows[len(fields):], 2 * len(fields))


def fault_behind(rows, many):
    order = ["worths", "arrows", "lot"]
    for at, words in rows:
        if words[0] not in order or not all(map(NUMBER.match, words[1:])):
            return at
        order = order[order.index(words[0]):]
        numbers = list(map(int, words[1:]))
        if words[0] == "lot":
            fine = numbers == sorted(set(numbers)) and all(0 <= own < many for own in numbers)
        else:
            fine = len(numbers) == many and (words[0] == "worths" or set(numbers) <= {0, 1})
        if not fine:
            return at
    return None


def slow_is_skin(rows):
    sewn = {
        (field, side): (row[2 * side], row[2 * side + 1]) for field, row in enumerate(rows) for side in range(4)
    }
    if not all(sewn.get(there) == here and there != here for here, there in sewn.items()):
        return False
    met = {0}
    for _ in rows:
        met |= {sewn[(field, side)][0] for field in met for side in range(4)}
    return len(met) == len(rows)


def bad(line):
    return (BadText, {"line": line})


def with_remarks(rng, text):
    """The same rows with other blanks, remarks and lines without pieces."""
    lines = []
    for line in text.split("\n"):
        for _ in range(rng.randrange(3)):
            lines.append(rng.choice(("", "   ", "# a remark: A/B", "  #field 1")))
        told = " " * rng.randrange(3) + (" " * rng.randrange(1, 4)).join(line.split(" ")) + " " * rng.randrange(3)
        lines.append(told + rng.choice(("", "#", "# FIELD 7 %", " ## lot")))
    return "\n".join(lines)


class IsSheetTest(unittest.TestCase):
    def test_sheets(self):
        rng = random.Random(311)
        for skin in many_skins(311, 1):
            sheet = drawn_sheet(rng, skin)
            self.assertIs(is_sheet(sheet), True)
            self.assertIs(is_sheet((skin, (), (), ())), True)
            self.assertIs(is_sheet(list(sheet)), False)
            for at in range(4):
                self.assertIs(is_sheet(sheet[:at] + (list(sheet[at]),) + sheet[at + 1:]), False)
                self.assertIs(is_sheet(sheet[:at] + sheet[at + 1:]), False)
                # Of one field, two numbers are WORTHS, and two bits ARROWS.
                for other in odd_things() if len(skin) > 1 else []:
                    # None of WORTHS, of ARROWS, of LOTS; or the one LOT that has no EDGE.
                    wanted = repr(other) == "()" and at > 0 or repr(other) == "((),)" and at == 3
                    self.assertIs(is_sheet(sheet[:at] + (other,) + sheet[at + 1:]), wanted)

    def test_one_thing_else(self):
        self.assertIs(is_sheet(SHEET), True)
        for worths in ((1, -2, 0), (1, -2, 0, 5, 0), (1, -2, 0, True), [1, -2, 0, 5], (1, -2, 0, None), 1, (), (1, -2, 0, (5,))):
            self.assertIs(is_sheet((PILLOW, (worths,), (), ())), False)
        for arrows in ((0, 0, 1), (0, 0, 1, 2), (0, 0, 1, True), [0, 0, 1, 1], (0,) * 5, (0, 0, 1, -1), ()):
            self.assertIs(is_sheet((PILLOW, (), (arrows,), ())), False)
        for lot in ((1, 0), (4,), (-1,), (0, 0), (True,), [0], (0, None), 0):
            self.assertIs(is_sheet((PILLOW, (), (), (lot,))), False)
        for thing in (
            SHEET + ((),), SHEET[:3], (SHEET,), PILLOW, (PILLOW,), (PILLOW[:1], (), (), ()), (PILLOW, (1, -2, 0, 5), (), ()),
            (PILLOW, (), (0, 0, 1, 1), ()), (PILLOW, (), (), (0,)), ((), (), (), ()), (as_lists(PILLOW), (), (), ()),
        ):
            self.assertIs(is_sheet(thing), False)

    def test_whatever_else(self):
        for thing in odd_things() + [nest(7, depth) for depth in range(21)] + [{}, 1.5, b""]:
            self.assertIs(is_sheet(thing), False)

    def test_greater_than_the_bounds(self):
        skin = ring_of(40)
        self.assertIs(is_sheet((skin, ((10 ** 30,) * 80,), ((1,) * 80,), (tuple(range(80)),) * 3)), True)
        self.assertIs(is_sheet((skin, ((10 ** 30,) * 79,), (), ())), False)


class TellAndReadTest(unittest.TestCase):
    def test_what_is_read_is_what_was_told(self):
        rng = random.Random(312)
        for skin in many_skins(312, 2):
            sheet = drawn_sheet(rng, skin)
            text = sheet_text(sheet)
            self.assertEqual(read_sheet(text), sheet)
            self.assertIs(is_sheet(read_sheet(text)), True)
            self.assertEqual(read_skin(text), skin)
            self.assertEqual(read_sheet(with_remarks(rng, text)), sheet)
            self.assertEqual(sheet_text(exchanged(sheet, rng)), text)
            self.assertEqual(sheet_text(as_lists(sheet)), text)

    def test_the_text(self):
        rng = random.Random(313)
        for skin in many_skins(313, 1):
            sheet = drawn_sheet(rng, skin)
            rows = [["field"] + [number for crossing in row for number in crossing] for row in skin]
            for word, part in zip(("worths", "arrows", "lot"), sheet[1:]):
                rows += [[word] + list(numbers) for numbers in part]
            self.assertEqual(sheet_text(sheet), "".join(" ".join(map(str, row)) + "\n" for row in rows))

    def test_skins_alone(self):
        for skin in list(small_skins())[::9] + list(drawn_skins(314, 1)):
            self.assertEqual(skin_text(skin), sheet_text((skin, (), (), ())))
            self.assertEqual(skin_text(as_lists(skin)), skin_text(skin))
            self.assertEqual(read_skin(skin_text(skin)), skin)
            self.assertEqual(read_sheet(skin_text(skin)), (skin, (), (), ()))
        self.assertEqual(skin_text(PILLOW), BALL_TEXT)
        self.assertEqual(skin_text(ONE), "field 0 2 0 3 0 0 0 1\n")

    def test_lines_that_do_not_end_and_empty_lots(self):
        self.assertEqual(read_skin("field 0 1 0 0 0 3 0 2"), BALL_OF_ONE)
        self.assertEqual(read_sheet("field 0 1 0 0 0 3 0 2\nlot\nlot"), (BALL_OF_ONE, (), (), ((), ())))
        self.assertEqual(read_sheet("\n\n#\nfield 0 1 0 0 0 3 0 2#\n\nlot # 5\n"), (BALL_OF_ONE, (), (), ((),)))

    def test_the_greatest_numbers_that_a_text_can_have(self):
        sheet = (ONE, ((10 ** 12 - 1, 1 - 10 ** 12),), (), ())
        self.assertEqual(sheet_text(sheet), "field 0 2 0 3 0 0 0 1\nworths 999999999999 -999999999999\n")
        self.assertEqual(read_sheet(sheet_text(sheet)), sheet)

    def test_of_12_fields(self):
        rng = random.Random(315)
        for handles in (0, 3, 6):
            sheet = drawn_sheet(rng, skin_with_handles(rng, 12, handles))
            self.assertEqual(read_sheet(sheet_text(sheet)), sheet)


class BadTextTest(unittest.TestCase):
    def check(self, text, line):
        self.assertEqual(slow_fault(text), line, text)
        for function in (read_sheet, read_skin):
            self.assertEqual(raised(function, text), bad(line), text)

    def test_no_row_at_all(self):
        for text in ("", "\n", "   ", "# nothing", "\n\n  # a\n", "#field 0 1 0 0 0 3 0 2"):
            self.check(text, 0)

    def test_a_fault_of_signs_ahead_of_all(self):
        for text, line in (
            ("A", 0), ("\nlot\nfield_1", 2), ("worths 1\nfield 1/2", 1), (BALL_TEXT + "lot 9\nlot X", 3), ("lot\n# A\n\n +1", 3),
            ("field 1 0 1 3 1 2 1 1\nfield 0 0 0 3 0 2 0 0\n!", 2), (BALL_TEXT + "worths 1 2 3 4,5", 2),
        ):
            self.check(text, line)

    def test_the_first_row_is_no_row_field(self):
        for text, line in (
            ("worths 1", 0), ("\n\nlot", 2), ("arrows 0 0\n" + BALL_TEXT, 0), ("fields 1", 0), ("1 field", 0), ("#\n0", 1), (".", 0),
            ("# a\n   \nfiel", 2), ("skin\nfield 0 1 0 0 0 3 0 2", 0), ("worths 0 1 0 0 0 3 0 2", 0), ("fiel 0 1 0 0 0 3 0 2", 0),
            ("lot 0 1 0 0 0 3 0 2\nlot", 0),
        ):
            self.check(text, line)

    def test_a_row_field_not_as_told(self):
        for row in (
            "field", "field 0 1 0 0 0 3 0", "field 0 1 0 0 0 3 0 2 0", "field 0 1 0 0 0 3 0 4", "field -1 1 0 0 0 3 0 2",
            "field 0 1 0 -1 0 3 0 2", "field 0 1 0 0 0 3 0 02", "field 0 1 0 0 0 3 0 x", "field 0 1 0 0 0 3 0 -0", "field 0 1 0 0 0 3 0 2.",
            "field 0 1 0 0 0 3 0 1234567890123", "field field 1 0 0 0 3 0 2", "field 0 1 0 0 0 3 0 -2", "field 0 1 0 0 0 3 0 999999999999",
            "field 00 1 0 0 0 3 0 2", "field - 1 0 0 0 3 0 2",
        ):
            self.check(row, 0)
            self.check(row + "\nfield 9 0 9 0 9 0 9 0", 0)
            self.check("\nfield 9 0 9 0 9 0 9 0\n" + row + "\nlot 9", 2)
            self.check(BALL_TEXT + "# a\n" + row, 3)

    def test_together_no_skin(self):
        for text, line in (
            ("field 1 0 1 3 1 2 1 1\nfield 0 0 0 3 0 2 0 0", 1), ("field 0 0 0 1 0 2 0 3", 0), ("field 1 0 1 3 1 2 1 1\n\n# a\nlot 7", 0),
            ("field 0 1 0 0 0 3 0 2\nfield 1 1 1 0 1 3 1 2\n\nlot", 1), ("field 0 1 0 0 0 3 0 2\n#\nfield 9 1 1 0 1 3 1 2\nwhat", 2),
            ("field 999999999999 0 0 0 0 0 0 0", 0), ("field 0 2 0 3 0 0 0 1\nfield 0 2 0 3 0 0 0 1\nworths 1", 1),
            # Ahead of all rows behind it, whatever these are; a row field among them, too.
            ("field 1 0 1 3 1 2 1 1\nlot\nfield 0 0 0 3 0 2 0 1", 0), ("field 1 0 1 3 1 2 1 1\nwhat\nfield 0 0 0", 0),
        ):
            self.check(text, line)

    def test_rows_behind(self):
        for rows, line in (
            ("worths 1 2 3", 2), ("worths 1 2 3 4 5", 2), ("worths", 2), ("worths 1 2 3 x", 2), ("worths 1 2 3 04", 2), ("worths 1 2 3 -0", 2),
            ("worths 1 2 3 1234567890123", 2), ("worths 1 2 3 4\nworths 1 2 3", 3), ("arrows 0 0 0", 2), ("arrows 0 0 0 2", 2),
            ("arrows 0 0 0 -1", 2), ("arrows 0 0 0 0 0", 2), ("arrows 0 0 0 00", 2), ("arrows", 2), ("lot 1 0", 2), ("lot 0 0", 2), ("lot 4", 2),
            ("lot -1", 2), ("lot 0 x", 2), ("lot 00", 2), ("lot\n\nlot 5", 4), ("what", 2), ("lots 0", 2), ("lot0", 2), ("0 lot", 2), ("-", 2),
        ):
            self.check(BALL_TEXT + rows, line)

    def test_a_row_behind_one_that_must_be_behind_it(self):
        worths, arrows, lot = "worths 1 2 3 4\n", "arrows 0 0 1 1\n", "lot 1\n"
        field = "field 1 0 1 3 1 2 1 1\n"
        for first, second in ((arrows, worths), (lot, worths), (lot, arrows), (worths, field), (arrows, field), (lot, field)):
            self.check(BALL_TEXT + first + second, 3)
            self.check(BALL_TEXT + first + first + "#\n" + second + "worths 1", 5)
        for rows in (worths + arrows, worths + lot, arrows + lot, worths * 2 + arrows * 2 + lot * 2, lot * 3):
            self.assertIsNone(slow_fault(BALL_TEXT + rows))
            self.assertIs(is_sheet(read_sheet(BALL_TEXT + rows)), True)

    def test_the_first_of_several_faults(self):
        self.check(BALL_TEXT + "worths 1 2 3 4\narrows 0 0 0 2\nlot 9", 3)
        self.check(BALL_TEXT + "lot 9\nworths 1", 2)
        self.check("field 1 0 1 3\n" + BALL_TEXT + "lot 9", 0)

    def test_drawn_faults(self):
        """One word, or one line, else: the line that is told, or the SHEET, as the document says it."""
        rng = random.Random(316)
        words = ["field", "worths", "arrows", "lot", "0", "1", "-1", "3", "4", "07", "x", ".", "A", "#", ""]
        found = set()
        for skin in [TWIN, PILLOW, ONE] * 20 + list(drawn_skins(316, 1)) * 3:
            lines = with_remarks(rng, sheet_text(drawn_sheet(rng, skin))).split("\n")
            for _ in range(rng.randrange(1, 3)):
                at = rng.randrange(len(lines))
                if rng.randrange(2):
                    parts = lines[at].split(" ")
                    parts[rng.randrange(len(parts))] = rng.choice(words)
                    lines[at] = " ".join(parts)
                else:
                    other = rng.randrange(len(lines))
                    lines[at], lines[other] = lines[other], lines[at]
            text = "\n".join(lines)
            line = slow_fault(text)
            found.add(line is None)
            if line is None:
                self.assertIs(is_sheet(read_sheet(text)), True)
            else:
                self.check(text, line)
        self.assertEqual(found, {True, False})


class RefusalsTest(unittest.TestCase):
    def test_no_sheet(self):
        for thing in odd_things() + [
            SHEET[:3], SHEET + ((),), (SHEET,), PILLOW, {0: 0}, 1.5, (PILLOW[:1], (), (), ()), (PILLOW, (1,), (), ()),
            (PILLOW, ((1, 2, 3),), (), ()), (PILLOW, (), ((0, 0, 0, True),), ()), (PILLOW, (), (), ((1, 0),)), (PILLOW, (), (), [[0, [1]]]),
            (PILLOW, None, (), ()), [PILLOW, [], [], [[4]]],
        ]:
            self.assertEqual(raised(sheet_text, thing), (Unfit, {}))

    def test_no_skin(self):
        for thing in odd_things() + [None, 0, (), "skin", TWIN[:1], ring_of(12)[:11], (((0, 0),) * 4,), SHEET]:
            self.assertEqual(raised(skin_text, thing), (Unfit, {}))

    def test_a_sheet_is_not_changed(self):
        sheet = as_lists(SHEET)
        kept = repr(sheet)
        sheet_text(sheet)
        self.assertEqual(repr(sheet), kept)
        told = read_sheet(sheet_text(sheet))
        self.assertNotIn("[", repr(told))


if __name__ == "__main__":
    unittest.main()
