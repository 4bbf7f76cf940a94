"""Texts of tape machines: [1.7], [1.8], [1.10]."""

import unittest

from stepdown.errors import BadText
from stepdown.tape import Tape
from stepdown.written import machine_of, text_of
from tests.samples import ADD_ONE, sample_tapes

ADD_ONE_TEXT = "tape 2 2\n0 0 > 1 right 1\n0 1 > 0 right 0\n1 0 stop\n1 1 stop\n"
SHIFT = Tape(3, 11, [(2, -1, 10), None, (0, 1, 0)] * 11)


class TextTest(unittest.TestCase):
    def test_the_example(self):
        self.assertEqual(text_of(ADD_ONE), ADD_ONE_TEXT)

    def test_moves_and_numbers_of_two_digits(self):
        lines = text_of(SHIFT).split("\n")
        self.assertEqual(lines[0], "tape 3 11")
        self.assertEqual(lines[1], "0 0 > 2 left 10")
        self.assertEqual(lines[2], "0 1 stop")
        self.assertEqual(lines[3], "0 2 > 0 right 0")
        self.assertEqual(lines[33], "10 2 > 0 right 0")
        self.assertEqual(lines[34:], [""])

    def test_there_and_back(self):
        greatest = Tape(16, 4000, [(15, 1, 3999), None] * 32000)
        smallest = Tape(2, 1, [None, None])
        for machine in sample_tapes() + [SHIFT, greatest, smallest]:
            text = text_of(machine)
            again = machine_of(text)
            self.assertIsInstance(again, Tape)
            self.assertEqual((again.marks, again.states), (machine.marks, machine.states))
            self.assertEqual(again.table(), machine.table())
            self.assertEqual(text_of(again), text)
        with self.assertRaises(BadText) as caught:
            machine_of(text_of(greatest) + "\n")
        self.assertEqual(caught.exception.line, 64002)


class WrongTextTest(unittest.TestCase):
    def wrong(self, text, line):
        with self.assertRaises(BadText, msg=repr(text)) as caught:
            machine_of(text)
        self.assertEqual(caught.exception.line, line, text)
        self.assertIs(type(caught.exception.line), int)

    def test_the_empty_text(self):
        self.wrong("", 1)
        self.wrong("\n", 1)
        self.wrong(" ", 1)
        self.wrong("\n" + ADD_ONE_TEXT, 1)

    def test_the_first_line(self):
        rest = "0 0 stop\n0 1 stop\n"
        self.assertEqual(machine_of("tape 2 1\n" + rest).table(), [None, None])
        for line in (
            "tape 1 1", "tape 0 1", "tape 17 1", "tape 2 0", "tape 2 4001", "tape 2 10000", "tape -2 1", "tape 2 -1",
            "tape 02 1", "tape 2 01", "tape +2 1", "tape 2 +1", "tape  2 1", "tape 2  1", " tape 2 1", "tape 2 1 ",
            "tape 2", "tape", "tape 2 1 1", "Tape 2 1", "tapes 2 1", "type 2 1", "tape 2 1\r", "tape\t2 1", "tape 2\t1",
            "tape 2 1_0", "tape 2.0 1", "tape two 1", "tape \u0662 1", "tape 2 \u0661", "tape 2 \u00b9", "2 1",
            "tape 2 ", "tape  2", "tape", "tape 2 " + "9" * 6000, "tape " + "9" * 6000 + " 1", "tape True 1",
            "0 0 stop", "tape,2,1", "tape None 1", "tape 2 None", "tape None None",
        ):
            self.wrong(line + "\n" + rest, 1)
            self.wrong(line + "\n", 1)
            self.wrong(line, 1)

    def test_greatest_sizes_in_the_first_line(self):
        self.wrong("tape 16 4000\n", 2)
        self.wrong("tape 2 1\n", 2)
        self.wrong("tape 16 4001\n", 1)
        self.wrong("tape 17 4000\n", 1)

    def test_a_wrong_line(self):
        lines = ADD_ONE_TEXT.split("\n")[:-1]
        wrong = (
            "", " ", "stop", "0 stop", "{0} stop ", " {0} stop", "{0}  stop", "{0} Stop", "{0} stop\r",
            "{0} > 1 right 2", "{0} > 2 right 1", "{0} > 1 up 1", "{0} > 1 Left 1", "{0} > 1 1 1", "{0} > 1 right",
            "{0} > 1 right 1 1", "{0} > 1 right 01", "{0} > 01 right 1", "{0} > +1 right 1", "{0} > 1 right +1",
            "{0} > -1 right 1", "{0} > 1 right -1", "{0} > 1  right 1", "{0} > 1 right  1", "{0}  > 1 right 1",
            "{0} >  1 right 1", "{0} > 1 right 1 ", " {0} > 1 right 1", "{0} < 1 right 1", "{0} 1 right 1",
            "{0} > 1 right 1\r", "{0}\t> 1 right 1", "{0} > 1 right 1_0", "{0} > \u0661 right 1", "{0} > 1 right \u00b9",
            "{0} > None", "{0} > None right 1", "{0} > 1 None 1", "{0} > 1 right None",
            "{0} > 1 stop 1", "{0} > 1 right 1.0", "{0} > right 1 1", "{0} > " + "9" * 6000 + " right 1",
            "0{0} stop", "+{0} stop", "{0} stop stop", "{0}", "2 0 stop", "0 2 stop", "{0} >  right 1", "{0} > 1 right ",
            "{0}\x0bstop", "{0}\u2028stop", "{0} stop\x0c", "{0}  > 1 right",
        )
        for number in range(2, 6):
            place = " ".join(lines[number - 1].split(" ")[:2])
            for form in wrong:
                changed = list(lines)
                changed[number - 1] = form.format(place)
                self.wrong("\n".join(changed) + "\n", number)
                self.wrong("\n".join(changed[:number]) + "\n", number)
                self.wrong("\n".join(changed[:number]), number)

    def test_a_line_of_another_place(self):
        self.wrong("tape 2 2\n0 1 stop\n0 0 stop\n1 0 stop\n1 1 stop\n", 2)
        self.wrong("tape 2 2\n0 0 stop\n0 0 stop\n1 0 stop\n1 1 stop\n", 3)
        self.wrong("tape 2 2\n0 0 stop\n1 0 stop\n0 1 stop\n1 1 stop\n", 3)
        self.wrong("tape 2 2\n0 0 stop\n0 1 stop\n1 1 stop\n1 0 stop\n", 4)

    def test_the_first_of_several_wrong_lines(self):
        self.wrong("tape 2 2\n0 0 stop\n0 1 halt\n1 0 halt\n1 1 halt\n", 3)
        self.wrong("tape 2 2\n0 0 stop\n0 1 stop\n1 0 halt\n", 4)
        self.wrong("tape 2 2\n0 0 stop\n0 1 halt\n1 0 stop\n1 1 stop\nmore\n", 3)

    def test_missing_lines(self):
        lines = ADD_ONE_TEXT.split("\n")[:-1]
        for kept in range(1, 5):
            self.wrong("\n".join(lines[:kept]) + "\n", kept + 1)

    def test_a_missing_newline(self):
        lines = ADD_ONE_TEXT.split("\n")[:-1]
        for kept in range(1, 6):
            self.wrong("\n".join(lines[:kept]), kept)
        self.wrong("tape 2 2\n0 0 st", 2)
        self.wrong("tap", 1)

    def test_lines_too_many(self):
        for more in ("\n", "\n\n", " ", "more", "2 0 stop\n", "1 1 stop\n", "tape 2 2\n", "\r\n"):
            self.wrong(ADD_ONE_TEXT + more, 6)
        self.wrong(ADD_ONE_TEXT + ADD_ONE_TEXT, 6)
        self.wrong("tape 2 1\n0 0 stop\n0 1 stop\n1 0 stop\n1 1 stop\n", 4)

    def test_other_ends_of_lines(self):
        self.wrong(ADD_ONE_TEXT.replace("\n", "\r\n"), 1)
        self.wrong(ADD_ONE_TEXT.replace("\n", "\r"), 1)
        self.wrong(ADD_ONE_TEXT.replace("\n", "\n\n"), 2)


if __name__ == "__main__":
    unittest.main()
