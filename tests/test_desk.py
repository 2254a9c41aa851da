"""[22]: the desk."""

import inspect
import random
import re
import unittest

from handlepairs.desk import Desk
from handlepairs.errors import BadText, NothingDone, Unfit
from tests.drawn import BALL_OF_ONE, ONE, PILLOW, TWIN, as_lists, exchanged, odd_things, raised, ring_of
from tests.shapes import FOUR, PAIR, chain_of, drawn_arrows, many_skins, skin_with_handles
from tests.slow import (
    slow_against, slow_corners, slow_handle_rings, slow_handles, slow_kind, slow_ring_round, slow_turned_at,
)

LINE = re.compile(r"(turn|flip|arrow) (0|[1-9][0-9]{0,5})|bad|kind|far")


class SlowDesk:
    """A desk that keeps all its says, and works all out from the beginning each time."""

    def __init__(self, skin, arrows):
        self.skin, self.first = skin, arrows
        self.done, self.undone = [], []

    def arrows(self):
        told = self.first
        for text in self.done:
            told = self.walked(told, text)[1]
        return told

    def walked(self, arrows, text):
        answers = []
        for line in text.split("\n"):
            answer, arrows = self.line_done(arrows, line)
            answers.append(answer)
        return tuple(answers), arrows

    def line_done(self, arrows, line):
        word, _, number = line.partition(" ")
        number = int(number) if number else None
        if word == "turn":
            if number >= len(self.skin):
                return "no field", arrows
            return "done", slow_turned_at(self.skin, arrows, (number,))
        if number is not None and number >= len(arrows):
            return "no edge", arrows
        if word == "flip":
            return "done", arrows[:number] + (1 - arrows[number],) + arrows[number + 1:]
        return self.told(arrows, word, number), arrows

    def told(self, arrows, word, number):
        corners = range(len(slow_corners(self.skin)))
        told = {
            "arrow": lambda: [arrows[number]],
            "bad": lambda: [
                at for at in corners if slow_against(self.skin, arrows, slow_ring_round(self.skin, at)) % 2 == 0
            ],
            "kind": lambda: slow_kind(self.skin, arrows),
            "far": lambda: [edge for edge in range(len(arrows)) if arrows[edge] != self.first[edge]],
        }[word]()
        return " ".join(map(str, told)) or "none"

    def say(self, text):
        answers, _ = self.walked(self.arrows(), text)
        if "done" in answers:
            self.done.append(text)
            self.undone = []
        return answers


def drawn_line(rng, skin):
    many = 2 * len(skin)
    return rng.choice((
        f"turn {rng.randrange(len(skin) + 2)}", f"flip {rng.randrange(many + 2)}", f"arrow {rng.randrange(many + 2)}", "bad", "kind",
        "far", "turn 999999", "flip 100000",
    ))


def drawn_say(rng, skin):
    return "\n".join(drawn_line(rng, skin) for _ in range(rng.randrange(1, 5)))


def kept(desk):
    return desk.skin(), desk.first(), desk.arrows()


class SayTest(unittest.TestCase):
    def test_each_line(self):
        desk = Desk(TWIN, (0, 0, 0, 0))
        for text, answer, arrows in (
            ("bad", "0 1", (0, 0, 0, 0)), ("kind", "1 0", (0, 0, 0, 0)), ("far", "none", (0, 0, 0, 0)), ("arrow 3", "0", (0, 0, 0, 0)),
            ("flip 3", "done", (0, 0, 0, 1)), ("arrow 3", "1", (0, 0, 0, 1)), ("bad", "none", (0, 0, 0, 1)), ("kind", "1 1", (0, 0, 0, 1)),
            ("turn 1", "done", (1, 0, 1, 1)), ("far", "0 2 3", (1, 0, 1, 1)), ("turn 2", "no field", (1, 0, 1, 1)),
            ("flip 4", "no edge", (1, 0, 1, 1)), ("arrow 4", "no edge", (1, 0, 1, 1)), ("arrow 999999", "no edge", (1, 0, 1, 1)),
            ("turn 0", "done", (0, 0, 0, 1)), ("flip 3", "done", (0, 0, 0, 0)), ("far", "none", (0, 0, 0, 0)),
        ):
            self.assertEqual(desk.say(text), (answer,))
            self.assertEqual(desk.arrows(), arrows)
            self.assertEqual(desk.first(), (0, 0, 0, 0))

    def test_drawn_says(self):
        rng = random.Random(341)
        for skin in many_skins(341, 1):
            arrows = drawn_arrows(rng, skin)
            desk, slow = Desk(skin, arrows), SlowDesk(skin, arrows)
            for _ in range(8):
                text = drawn_say(rng, skin)
                told = desk.say(text)
                self.assertIsInstance(told, tuple)
                self.assertEqual(told, slow.say(text))
                self.assertEqual(desk.arrows(), slow.arrows())
            self.assertEqual((desk.skin(), desk.first()), (skin, arrows))

    def test_without_handles_and_of_one_field(self):
        self.assertEqual(Desk(PILLOW, (0, 0, 0, 0)).say("kind\nbad\nfar"), ("none", "none", "none"))
        self.assertEqual(Desk(BALL_OF_ONE, (0, 0)).say("kind\nbad"), ("none", "0 1 2"))
        for arrows in ((0, 0), (0, 1), (1, 0), (1, 1)):
            desk = Desk(ONE, arrows)
            # Its EDGES lead from the field to itself: nothing is turned, but it is done.
            self.assertEqual(desk.say("turn 0\nfar\nturn 1"), ("done", "none", "no field"))
            self.assertEqual((desk.arrows(), desk.undo()), (arrows, 0))

    def test_numbers_of_two_figures_ascending(self):
        skin = ring_of(12)
        desk = Desk(skin, (0,) * 24)
        self.assertEqual(desk.say("\n".join(f"flip {edge}" for edge in (23, 2, 10, 9))), ("done",) * 4)
        self.assertEqual(desk.say("far"), ("2 9 10 23",))
        told = desk.say("bad")[0].split(" ")
        self.assertEqual(list(map(int, told)), sorted(map(int, told)))

    def test_against_of_each_handle_ring_in_their_order(self):
        rng = random.Random(342)
        for handles in (2, 3, 4, 6):
            skin = skin_with_handles(rng, 12, handles)
            arrows = drawn_arrows(rng, skin)
            wanted = [str(slow_against(skin, arrows, ring) % 2) for ring in slow_handle_rings(skin)]
            self.assertEqual(len(wanted), 2 * slow_handles(skin))
            self.assertEqual(Desk(skin, arrows).say("kind"), (" ".join(wanted),))


class BadTextTest(unittest.TestCase):
    def check(self, desk, text, line):
        before = kept(desk)
        self.assertEqual(raised(desk.say, text), (BadText, {"line": line}), text)
        self.assertEqual(kept(desk), before)
        self.assertEqual(raised(desk.undo)[0], NothingDone)

    def test_lines_that_are_none(self):
        desk = Desk(TWIN, (0, 0, 0, 0))
        for row in (
            "", " ", "turn", "turn ", "turn  1", " turn 1", "turn 1 ", "turn 1 1", "turn 01", "turn 00", "turn -1", "turn -0", "turn 1234567",
            "turn 1000000", "turn x", "turn 1.", "turn 1#", "Turn 1", "turn1", "flip", "flip a", "flip 0 0", "arrow", "arrow +1", "bad 1", "bad ",
            " bad", "kind 0", "far 0", "far far", "BAD", "# bad", "undo", "1", "1 turn", "turn turn", "none", "done", "bads", "turn 1e1", "turn 1_0",
        ):
            self.check(desk, row, 0)
            self.check(desk, "turn 0\n" + row, 1)
            self.check(desk, row + "\nturn 0", 0)
            self.check(desk, "turn 0\nflip 1\nbad\n" + row + "\n" + row, 3)

    def test_a_line_break_at_the_end_begins_one_more(self):
        desk = Desk(TWIN, (0, 0, 0, 0))
        self.check(desk, "bad\n", 1)
        self.check(desk, "turn 0\n\nturn 1", 1)
        self.check(desk, "\n", 0)
        self.check(desk, "\nbad", 0)

    def test_ahead_of_refusals(self):
        desk = Desk(TWIN, (0, 0, 0, 0))
        self.check(desk, "turn 9\nflip 9\narrow 9\nturn 1000000", 3)

    def test_what_could_be_done_once_more_stays(self):
        desk = Desk(TWIN, (0, 0, 0, 0))
        desk.say("turn 0")
        desk.undo()
        self.check(desk, "turn 0\nx", 1)
        self.assertEqual(desk.redo(), 1)

    def test_drawn_lines(self):
        rng = random.Random(343)
        signs = "turnflipabdk 0019\n-"
        found = set()
        for _ in range(400):
            text = drawn_say(rng, FOUR)
            at = rng.randrange(len(text) + 1)
            text = text[:at] + rng.choice(signs) + text[at + rng.randrange(2):]
            wrong = [line for line, row in enumerate(text.split("\n")) if not LINE.fullmatch(row)]
            desk = Desk(FOUR, (0,) * 8)
            found.add(bool(wrong))
            if wrong:
                self.check(desk, text, wrong[0])
            else:
                self.assertEqual(desk.say(text), SlowDesk(FOUR, (0,) * 8).say(text))
        self.assertEqual(found, {True, False})


class UndoTest(unittest.TestCase):
    def test_nothing_done(self):
        desk = Desk(TWIN, (0, 0, 0, 0))
        for text in (None, "bad", "kind\nfar\narrow 0", "turn 9\nflip 9\narrow 9"):
            if text is not None:
                desk.say(text)
            self.assertEqual(raised(desk.undo), (NothingDone, {}))
            self.assertEqual(raised(desk.redo), (NothingDone, {}))

    def test_back_and_once_more(self):
        desk = Desk(TWIN, (0, 0, 0, 0))
        told = [desk.arrows()]
        for text in ("flip 0", "bad", "turn 1\nflip 1\nturn 9", "far\nflip 2"):
            if "done" in desk.say(text):
                told.append(desk.arrows())
        self.assertEqual(len(told), 4)
        for left in (2, 1, 0):
            self.assertEqual(desk.undo(), left)
            self.assertEqual(desk.arrows(), told[left])
        self.assertEqual(raised(desk.undo), (NothingDone, {}))
        self.assertEqual(desk.arrows(), told[0])
        for many in (1, 2, 3):
            self.assertEqual(desk.redo(), many)
            self.assertEqual(desk.arrows(), told[many])
        self.assertEqual(raised(desk.redo), (NothingDone, {}))
        self.assertEqual(desk.arrows(), told[3])

    def test_a_say_that_comes_to_the_same_counts_too(self):
        desk = Desk(TWIN, (0, 1, 0, 0))
        self.assertEqual(desk.say("turn 0\nturn 1"), ("done", "done"))
        self.assertEqual(desk.arrows(), (0, 1, 0, 0))
        self.assertEqual(desk.undo(), 0)
        self.assertEqual(desk.redo(), 1)

    def test_what_ends_what_could_be_done_once_more(self):
        for text, ends in (("bad\nfar", False), ("turn 9", False), ("flip 0", True), ("turn 9\nturn 0", True), ("turn 0\nturn 1", True)):
            desk = Desk(TWIN, (0, 0, 0, 0))
            desk.say("flip 1")
            desk.undo()
            desk.say(text)
            self.assertEqual(raised(desk.redo)[0], NothingDone if ends else None)

    def test_drawn(self):
        rng = random.Random(344)
        for skin in many_skins(344, 1)[::2]:
            arrows = drawn_arrows(rng, skin)
            desk, slow = Desk(skin, arrows), SlowDesk(skin, arrows)
            for _ in range(25):
                step = rng.randrange(4)
                if step == 0 and slow.done:
                    slow.undone.append(slow.done.pop())
                    self.assertEqual(desk.undo(), len(slow.done))
                elif step == 1 and slow.undone:
                    slow.done.append(slow.undone.pop())
                    self.assertEqual(desk.redo(), len(slow.done))
                elif step < 2:
                    function = (desk.undo, desk.redo)[step]
                    self.assertEqual(raised(function), (NothingDone, {}))
                else:
                    text = drawn_say(rng, skin)
                    self.assertEqual(desk.say(text=text), slow.say(text))
                self.assertEqual(desk.arrows(), slow.arrows())


class TwinTest(unittest.TestCase):
    def test_a_twin_has_all_that_was_done(self):
        rng = random.Random(345)
        for skin in (TWIN, PILLOW, FOUR, PAIR):
            desk = Desk(skin, drawn_arrows(rng, skin))
            for text in ("flip 0", "flip 1", "turn 0\nflip 3"):
                desk.say(text)
            desk.undo()
            other = desk.twin()
            self.assertIsInstance(other, Desk)
            self.assertIsNot(other, desk)
            self.assertEqual(kept(other), kept(desk))
            self.assertTrue(other == desk)
            self.assertFalse(other != desk)
            self.assertEqual((other.redo(), desk.redo()), (3, 3))
            for left in (2, 1, 0):
                self.assertEqual((other.undo(), desk.undo()), (left, left))
                self.assertEqual(kept(other), kept(desk))

    def test_what_is_done_by_one_stays_there(self):
        desk = Desk(TWIN, (0, 0, 0, 0))
        desk.say("flip 0")
        other = desk.twin()
        other.say("flip 1")
        self.assertEqual((desk.arrows(), other.arrows()), ((1, 0, 0, 0), (1, 1, 0, 0)))
        self.assertEqual((desk.undo(), other.undo(), other.undo()), (0, 1, 0))
        self.assertEqual((raised(desk.undo)[0], raised(other.undo)[0]), (NothingDone, NothingDone))
        self.assertEqual((desk.redo(), other.redo(), other.redo()), (1, 1, 2))
        desk.say("flip 3")
        self.assertEqual(other.arrows(), (1, 1, 0, 0))
        self.assertEqual(other.first(), (0, 0, 0, 0))

    def test_equal_ones(self):
        desk = Desk(TWIN, (0, 0, 0, 0))
        self.assertTrue(desk == Desk(as_lists(TWIN), [0, 0, 0, 0]))
        other = Desk(TWIN, (0, 0, 0, 0))
        other.say("flip 0\nflip 0")
        self.assertTrue(desk == other)
        other.say("flip 0")
        self.assertTrue(desk != other)
        self.assertFalse(desk == other)
        other.undo()
        self.assertTrue(desk == other)
        # Of the same ARROWS now, but not of the same beginning.
        far = Desk(TWIN, (1, 0, 0, 0))
        far.say("flip 0")
        self.assertEqual(far.arrows(), desk.arrows())
        self.assertTrue(far != desk)
        self.assertTrue(Desk(PILLOW, (0, 0, 0, 0)) != desk)
        for thing in (None, 0, "desk", (TWIN, (0, 0, 0, 0)), kept(desk), [], TWIN):
            self.assertFalse(desk == thing)
            self.assertTrue(desk != thing)


class MakingTest(unittest.TestCase):
    def test_lists_names_and_copies(self):
        rng = random.Random(346)
        for skin in many_skins(346, 1):
            arrows = drawn_arrows(rng, skin)
            own, bits = as_lists(skin), list(arrows)
            desk = Desk(arrows=bits, skin=own)
            own[0][0][0] = bits[0] = 7
            self.assertEqual(kept(desk), (skin, arrows, arrows))
            self.assertTrue(desk == Desk(exchanged(skin, rng), exchanged(arrows, rng)))
            self.assertNotIn("[", repr(kept(desk)))

    def test_no_skin_and_no_arrows(self):
        for bad in odd_things() + [(0, 0, 0), (0,) * 5, (0, 0, 0, 2), (0, 0, 0, True), (0, 0, 0, None), "0000", {0: 0}, [0, 0, 0, [0]]]:
            self.assertEqual(raised(Desk, TWIN, bad), (Unfit, {}))
        for bad in odd_things() + [None, 0, (), "skin", TWIN[:1], ring_of(12)[:11], (((0, 0),) * 4,)]:
            self.assertEqual(raised(Desk, bad, (0, 0, 0, 0)), (Unfit, {}))

    def test_arrows_need_not_be_good(self):
        for arrows in ((0, 0, 0, 0), (0, 1, 0, 0), (1, 1, 1, 1)):
            self.assertEqual(Desk(TWIN, arrows).arrows(), arrows)
        self.assertEqual(Desk(chain_of(3), (1,) * 6).first(), (1,) * 6)

    def test_the_interface(self):
        self.assertEqual(Desk.__module__, "handlepairs.desk")
        wanted = {
            "__init__": "self skin arrows", "say": "self text", "skin": "self", "arrows": "self", "first": "self", "undo": "self",
            "redo": "self", "twin": "self", "__eq__": "self other",
        }
        for name, arguments in wanted.items():
            self.assertIn(name, vars(Desk))
            self.assertEqual(list(inspect.signature(vars(Desk)[name]).parameters), arguments.split())
        self.assertNotIn("__ne__", vars(Desk))

    def test_the_same_calls_answer_the_same(self):
        texts = ("flip 0\nbad", "turn 1\nkind", "far", "flip 9")
        told = []
        for _ in range(2):
            desk = Desk(TWIN, (0, 0, 0, 0))
            told.append([desk.say(text) for text in texts] + [desk.undo(), desk.arrows(), desk.redo(), desk.arrows()])
        self.assertEqual(told[0], told[1])


if __name__ == "__main__":
    unittest.main()
