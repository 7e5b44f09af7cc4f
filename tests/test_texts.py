"""Points [73] and [74], and promise [22]: nets printed and parsed."""

import random
import unittest

import makers
from checks import Checks
from house_makers import sound_net
from samples import (
    CALENDARS, CHOICE, LETTER, NO_NETS, PLAIN, ROUND, ROW, SIDES, SOUND, TASK, UNSOUND, as_lists, is_plain, mixed, step,
)

from wholeflow.errors import BadText
from wholeflow.nets import is_net
from wholeflow.texts import parse, printed

LETTER_TEXT = """net 3
step write task pens 2 10 bin
in 0
out 2
step check choice
in 2
out 1
step again choice
in 2
out 0
"""

ROW_TEXT = """net 6
step a task pens 2 10 bin
in 0
out 2
step b signal go
in 2
out 3
step c wait 7 7,0,1,4
in 3
out 4
step d plain
in 4
out 5
step e choice
in 5
out 1
"""

SIDES_TEXT = """net 6
step split plain
in 0
out 2 3
step right signal go
in 3
out 5
step left task pens 2 10 bin
in 2
out 4
step join plain
in 4 5
out 1
"""

NO_TEXTS = (None, True, False, 0, 1, 10 ** 30, (), [], ("net 2",), ["net 2\n"], LETTER)


def with_kind(kind):
    return 2, (("a", kind, (0,), (1,)),)


def with_line(text, at, line):
    """The text with another line at this place; without one for None."""
    lines = text.split("\n")[:-1]
    lines[at:at + 1] = [] if line is None else [line]
    return "".join(part + "\n" for part in lines)


NUMBERS = {str(number): number for number in range(1001)}


def number_of(word):
    return NUMBERS.get(word, "none")


def numbers_of(words, first):
    return tuple(number_of(word) for word in words[1:]) if words[0] == first else None


def kind_of(words):
    if words[:1] == ["wait"] and len(words) == 3:
        parts = [number_of(part) for part in words[2].split(",")]
        return ("wait", number_of(words[1]), None if words[2] == "-" else (parts[0], tuple(parts[1:])))
    if words[:1] == ["task"] and len(words) == 5:
        return ("task", words[1], number_of(words[2]), number_of(words[3]), None if words[4] == "-" else words[4])
    return tuple(words)


def steps_of(lines):
    """The steps of lines that are right."""
    steps = []
    for at in range(0, len(lines), 3):
        words = lines[at].split(" ")
        steps.append((words[1], kind_of(words[2:]), numbers_of(lines[at + 1].split(" "), "in"),
                      numbers_of(lines[at + 2].split(" "), "out")))
    return tuple(steps)


def may_stand(lines):
    """Whether the last one of the lines may stand there, those before it being right."""
    words, place = lines[-1].split(" "), len(lines) % 3
    if len(lines) == 1:
        return len(words) == 2 and words[0] == "net" and words[1] in list("2345678")
    places = int(lines[0].split(" ")[1])
    begun = {2: 1, 0: 2, 1: 3}[place]
    steps, own = steps_of(lines[1:-begun]), [line.split(" ") for line in lines[-begun:]]
    name, kind = own[0][1:2], kind_of(own[0][2:])
    if place == 2:
        # Alone, and with a free place as its in.
        return (words[0] == "step" and len(words) > 2 and name[0] not in [row[0] for row in steps] and len(steps) < 10
                and is_net((2, ((name[0], kind, (0,), (1,)),))))
    ins = numbers_of(own[1], "in")
    # With the end as its out it is in no circle.
    outs = (1,) if place == 0 else numbers_of(own[2], "out")
    return ins is not None and outs is not None and is_net((places, steps + ((name[0], kind, ins, outs),)))


def first_wrong(lines):
    """The number that BadText tells by the words of [74] and [27], read slowly; None for a net."""
    for many in range(1, len(lines) + 1):
        if not may_stand(lines[:many]):
            return many - 1
    return None if len(lines) % 3 == 1 else len(lines)


class PrintedTest(Checks):

    def test_texts(self):
        self.assertEqual(printed(LETTER), LETTER_TEXT)
        self.assertEqual(printed(ROW), ROW_TEXT)
        self.assertEqual(printed(net=SIDES), SIDES_TEXT)
        self.assertEqual(printed((2, ())), "net 2\n")
        self.assertEqual(printed((8, ())), "net 8\n")

    def test_kinds(self):
        for kind, words in ((PLAIN, "plain"), (CHOICE, "choice"), (("signal", "abcdefgh"), "signal abcdefgh"),
                            (("wait", 1, None), "wait 1 -"), (("wait", 1000, (1, (0,))), "wait 1000 1,0"),
                            (("wait", 20, (28, (3, 10, 27))), "wait 20 28,3,10,27"),
                            (("task", "pens", 1, 1, None), "task pens 1 1 -"),
                            (("task", "p", 5, 1000, "undo"), "task p 5 1000 undo")):
            text = "net 2\nstep a {}\nin 0\nout 1\n".format(words)
            self.assertEqual(printed(with_kind(kind)), text)
            self.assertEqual(parse(text), with_kind(kind))

    def test_lists(self):
        for net in SOUND + UNSOUND:
            self.assertEqual(self.unchanged(printed, net), printed(mixed(net)))
            self.assertIs(type(printed(as_lists(net))), str)

    def test_no_nets(self):
        for value in NO_NETS:
            self.refused(0, printed, value)


class ParsedTest(Checks):

    def test_nets(self):
        for text, net in ((LETTER_TEXT, LETTER), (ROW_TEXT, ROW), (SIDES_TEXT, SIDES), ("net 2\n", (2, ()))):
            self.assertEqual(parse(text), net)
            self.assertEqual(parse(text=text[:-1]), net)
            self.assertTrue(is_plain(parse(text)))
            self.assertEqual(printed(parse(text[:-1])), text)

    def test_printed_and_parsed(self):
        for net in SOUND + UNSOUND + tuple(with_kind(("wait", 9, calendar)) for calendar in CALENDARS):
            self.assertEqual(parse(printed(net)), net)
            self.assertEqual(parse(printed(as_lists(net))), net)
            self.assertEqual(printed(parse(printed(net))), printed(net))

    def test_nets_made_by_chance(self):
        chance = random.Random(1)
        for net in makers.nets(1, 300) + [sound_net(chance) for _ in range(200)]:
            self.assertEqual(parse(printed(net)), net)
            self.assertEqual(printed(parse(printed(net)[:-1])), printed(net))

    def test_words_that_are_kinds_and_heads_of_lines(self):
        net = (4, (step("step", ("signal", "plain"), [0], [2]), step("in", ("task", "choice", 1, 2, "wait"), [2], [3]),
                   step("out", ("task", "in", 1, 2, None), [3], [1]), step("net", ("signal", "signal"), [3], [1])))
        text = ("net 4\nstep step signal plain\nin 0\nout 2\nstep in task choice 1 2 wait\nin 2\nout 3\n"
                "step out task in 1 2 -\nin 3\nout 1\nstep net signal signal\nin 3\nout 1\n")
        self.assertEqual(printed(net), text)
        self.assertEqual(parse(text), net)

    def test_ten_steps_and_eight_places(self):
        net = (8, tuple(step("abcdefghij"[at], TASK, [0, 2, 3, 4, 5, 6, 7], range(8)) for at in range(10)))
        self.assertEqual(parse(printed(net)), net)
        more = printed(net) + "step k choice\nin 0\nout 1\n"
        self.assertEqual(BadTextAt.of(self, more), 31)


class BadTextAt:
    """Asks for the number that BadText tells."""

    @staticmethod
    def of(test, text):
        with test.assertRaises(BadText) as caught:
            parse(text)
        return caught.exception.at


class CaseOfTexts(Checks):

    def fails(self, text, at):
        self.assertEqual(BadTextAt.of(self, text), at, text)


class LinesTest(CaseOfTexts):

    def test_no_string(self):
        for value in NO_TEXTS:
            self.fails(value, 0)

    def test_empty_texts_and_lines(self):
        self.fails("", 0)
        self.fails("\n", 0)
        self.fails("\n\n", 0)
        self.fails("\nnet 2\n", 0)
        self.fails("net 2\n\n", 1)
        self.fails("net 2\n\n\n", 1)
        for at in range(10):
            self.fails(with_line(LETTER_TEXT, at, ""), at)
        self.fails(LETTER_TEXT + "\n", 10)
        self.fails(LETTER_TEXT[:-1] + "\n\n", 10)

    def test_too_early_an_end(self):
        lines = LETTER_TEXT.split("\n")[:-1]
        for many in range(len(lines)):
            text = "\n".join(lines[:many])
            if many in (1, 4, 7):
                self.assertEqual(len(parse(text)[1]), many // 3)
                self.assertEqual(len(parse(text + "\n")[1]), many // 3)
            else:
                self.fails(text, many)
                if many > 0:
                    self.fails(text + "\n", many)

    def test_lines_left_out_and_put_in(self):
        lines = ROW_TEXT.split("\n")[:-1]
        for at in range(len(lines)):
            self.fails(with_line(ROW_TEXT, at, None), at)
            for line in ("net 9", "x", " ", "", "in 9", "step 9"):
                self.fails("\n".join(lines[:at] + [line] + lines[at:]), at)
            for line in ("in 0", "out 1", "step z choice", "in 2 3", "out 5", "step d plain"):
                more = lines[:at] + [line] + lines[at:]
                self.assertIn(first_wrong(more), (at, at + 1))
                self.fails("\n".join(more), first_wrong(more))

    def test_a_line_twice(self):
        lines = ROW_TEXT.split("\n")[:-1]
        for at in range(len(lines)):
            self.fails("\n".join(lines[:at + 1] + lines[at:]) + "\n", at + 1)

    def test_lines_exchanged(self):
        for one in range(16):
            for other in range(one):
                if one % 3 != other % 3 or other == 0:
                    lines = ROW_TEXT.split("\n")[:-1]
                    lines[one], lines[other] = lines[other], lines[one]
                    self.fails("\n".join(lines), other)

    def test_spaces_and_other_signs(self):
        for text in (LETTER_TEXT, ROW_TEXT, SIDES_TEXT):
            lines = text.split("\n")[:-1]
            for at, line in enumerate(lines):
                words = line.split(" ")
                for other in (" " + line, line + " ", line.replace(" ", "  ", 1), "  ".join(words), line + " x", line + " -",
                              line + " 0", line.upper(), line + ",", line.replace(" ", "\t"), words[0], words[0] + " ",
                              line.replace(" ", ""), line + "\t", "'" + line, line.replace(" ", ",")):
                    self.fails(with_line(text, at, other), at)

    def test_each_word_of_each_line(self):
        wrong = ("", "-", "0", "1", "9", "01", "00", "+1", "-1", "1.0", "x1", "A", "abcdefghi", "None", "1_0", "1,1", ",",
                 "(0,)", "in", "net", "9" * 4000, "9" * 10000)
        counts = {True: 0, False: 0}
        for text in (LETTER_TEXT, ROW_TEXT, SIDES_TEXT):
            lines = text.split("\n")[:-1]
            for at, line in enumerate(lines):
                words = line.split(" ")
                for place in range(len(words)):
                    for word in wrong:
                        other = " ".join(words[:place] + [word] + words[place + 1:])
                        right = first_wrong(lines[:at] + [other] + lines[at + 1:])
                        counts[right is None] += 1
                        if right is not None:
                            self.fails(with_line(text, at, other), right)
                            self.assertGreaterEqual(right, at)
                        else:
                            self.assertEqual(printed(parse(with_line(text, at, other))), with_line(text, at, other))
        self.assertGreater(counts[False], 1500)
        self.assertGreater(counts[True], 20)


class NumbersTest(CaseOfTexts):

    def line(self, line):
        return "net 4\nstep a {}\nin 0\nout 1\n".format(line)

    def test_bounds_of_numbers(self):
        for number in ("0", "1", "9", "10", "02", "2.0", "-2", "+2", "", "x", "2 2", "9" * 19000):
            self.fails("net {}\n".format(number), 0)
        for number in range(2, 9):
            self.assertEqual(parse("net {}".format(number)), (number, ()))
        for ticks, calendar in (("0", "-"), ("1001", "-"), ("01", "-"), ("", "-"), ("1", ""), ("1", "7"), ("1", "7,"),
                                ("1", "7,7"), ("1", "0,0"), ("1", "29,0"), ("1", "7,1,0"), ("1", "7,1,1"), ("1", "7,-1"),
                                ("1", "07,1"), ("1", "7,01"), ("1", ",0"), ("1", "7,,1"), ("1", "7,0,"), ("1", "7;0"),
                                ("1", "None"), ("1", "--"), ("-", "-"), ("1", "7,0 1"), ("9" * 9000, "-"),
                                ("1", "9" * 9000 + ",0"), ("1", "7," + "9" * 9000), ("-1", "-")):
            self.fails(self.line("wait {} {}".format(ticks, calendar)), 1)
        for words in ("p 0 1 -", "p 6 1 -", "p 1 0 -", "p 1 1001 -", "- 1 1 -", "p 01 1 -", "p 1 01 -", "p 1 1 Bin",
                      "p 1 1 --", "p 1 1", "p 1 1 - -", "p 1 1 abcdefghi", "abcdefghi 1 1 -", "p -1 1 -", "p 1 -1 -",
                      "p " + "9" * 9000 + " 1 -", "p 1 " + "9" * 9000 + " -", "p - 1 -", "p 1 - -", "p 1 1 ", "P 1 1 -"):
            self.fails(self.line("task " + words), 1)
        for kind in ("signal", "signal -", "signal Go", "signal go on", "signal abcdefghi", "signal ", "plain -", "plain 1",
                     "choice -", "wait", "wait 1", "wait 1 - -", "task", "", "none", "Plain", "plai", "- -"):
            self.fails(self.line(kind), 1)

    def test_other_numbers_of_the_same_value(self):
        for at, other in ((0, "net 03"), (2, "in 00"), (3, "out 02"), (3, "out +2"), (2, "in 0x0"), (3, "out 2.")):
            self.fails(with_line(LETTER_TEXT, at, other), at)

    def test_ins_and_outs(self):
        for ins in ("", "1", "0 1", "2 0", "0 0", "4", "-1", "9" * 5000, "0,2", "0 2 "):
            self.fails(with_line(self.line("choice"), 2, "in {}".format(ins)), 2)
        for outs in ("", "2 0", "1 1", "4", "-1", "9" * 5000, "0,2", "1 2 "):
            self.fails(with_line(self.line("choice"), 3, "out {}".format(outs)), 3)
        self.fails(with_line(self.line("choice"), 2, "in"), 2)
        self.fails(with_line(self.line("choice"), 3, "out"), 3)
        self.assertEqual(parse("net 4\nstep a choice\nin 0 2 3\nout 0 1 2 3"), (4, (("a", CHOICE, (0, 2, 3), (0, 1, 2, 3)),)))


class LinesBeforeTest(CaseOfTexts):

    def test_names(self):
        for line in ("step write choice", "step check choice"):
            self.fails(with_line(LETTER_TEXT, 7, line), 7)
        self.fails(with_line(LETTER_TEXT, 4, "step write choice"), 4)

    def test_places_of_plain_steps(self):
        # `again` shares its in with `check`; whichever of them is plain, it is the later line that is wrong.
        self.fails(with_line(LETTER_TEXT, 4, "step check plain"), 8)
        self.fails(with_line(LETTER_TEXT, 7, "step again plain"), 8)
        self.fails(with_line(with_line(LETTER_TEXT, 7, "step again plain"), 9, "out 9"), 8)
        row = "net 4\nstep a {}\nin 0\nout 2\nstep b {}\nin 2\nout 3\nstep c {}\nin {}\nout 1\n"
        self.assertTrue(is_net(parse(row.format("plain", "plain", "plain", 3))))
        self.assertTrue(is_net(parse(row.format("plain", "choice", "choice", 2))))
        self.assertTrue(is_net(parse(row.format("choice", "plain", "choice", 0))))
        for kinds, place in ((("plain", "choice", "choice"), 0), (("choice", "plain", "choice"), 2),
                             (("choice", "choice", "plain"), 0), (("plain", "plain", "plain"), "2 3")):
            self.fails(row.format(*kinds, place), 8)

    def test_circles_of_plain_steps_and_waits(self):
        one = "net 4\nstep a plain\nin 0\nout 2\nstep b wait 3 -\nin 2\nout {}\nstep c choice\nin 3\nout 1\n"
        self.fails(one.format("0"), 6)
        self.fails(one.format("0 3"), 6)
        self.fails(one.format("2"), 6)
        self.assertTrue(is_net(parse(one.format("3"))))
        self.assertTrue(is_net(parse(one.format("0 3").replace("wait 3 -", "choice"))))
        three = "net 4\nstep c choice\nin 3\nout 1 0\nstep b plain\nin 2\nout 0\nstep a wait 2 -\nin 0\nout 1 2\n"
        self.fails(three.replace("out 1 0", "out 0 1"), 9)
        self.fails("net 2\nstep a plain\nin 0\nout 0 1\n", 3)
        self.fails("net 2\nstep a wait 1 -\nin 0\nout 0\nbad\n", 3)

    def test_the_first_of_several(self):
        lines = ROUND_LINES
        for at in range(len(lines)):
            for later in range(at + 1, len(lines)):
                text = "\n".join("x" if place in (at, later) else line for place, line in enumerate(lines))
                self.fails(text, at)

    def test_long_texts(self):
        self.fails("net 2\n" + "\n" * 15000, 1)
        self.fails("x" * 20000, 0)
        self.fails("net 2\n" + "step a choice\n" * 1000, 2)
        self.fails(" " * 20000, 0)
        self.fails(LETTER_TEXT + " " * 10000, 10)


ROUND_LINES = printed(ROUND).split("\n")[:-1]

if __name__ == "__main__":
    unittest.main()
