"""The fault, held against its definition: the most bytes that some drawing's text begins with."""

import unittest

from helper import EVERYDAY, SIGNS, as_bytes, greatest_text, is_drawing, stroke_line, verdict
from pensheets.drawings import judge

HARD = "drawing a0 1 10\nstroke b 16 1 -1,0\nstroke abcdefghijklmnop 25 10 99,-100\n" \
       "stroke abcdefghijklmno 2 9 0,0 1,1\nfill 255 0,9\n"
BYTES = "abfsoz0125679 ,-\n\r\tA~_\x00\x80\xff"


class Beginnings(unittest.TestCase):

    def test_the_empty_text(self):
        self.assertEqual(judge([]), [-6, 0])

    def test_each_beginning(self):
        for text in ("drawing a 1 1\n", EVERYDAY, HARD):
            for length in range(len(text)):
                begin = text[:length]
                asked = [0] if is_drawing(begin) else [-6, length]
                self.assertEqual(judge(as_bytes(begin)), asked, begin)

    def test_beginnings_of_the_greatest_text(self):
        text = greatest_text()
        for length in list(range(0, len(text), 1009)) + [len(text) - 1]:
            begin = text[:length]
            asked = [0] if is_drawing(begin) else [-6, length]
            self.assertEqual(judge(as_bytes(begin)), asked, length)


class OneByteOff(unittest.TestCase):

    def holds(self, text):
        self.assertEqual(judge(as_bytes(text)), verdict(text), text)

    def test_changed(self):
        for text in (EVERYDAY, HARD):
            for i in range(len(text)):
                for byte in BYTES:
                    self.holds(text[:i] + byte + text[i + 1:])

    def test_put_in(self):
        for text in (EVERYDAY, HARD):
            for i in range(len(text) + 1):
                for byte in BYTES:
                    self.holds(text[:i] + byte + text[i:])

    def test_left_out(self):
        for text in (EVERYDAY, HARD):
            for i in range(len(text)):
                self.holds(text[:i] + text[i + 1:])

    def test_each_byte_that_there_is(self):
        for begin in ("", "drawing ", "drawing a", "drawing a 2", "drawing a 25 5\n", EVERYDAY):
            for byte in range(256):
                text = begin + bytes([byte]).decode("latin-1")
                self.holds(text)
                self.holds(text + "0")


class UsedUpNames(unittest.TestCase):

    def test_where_names_run_out(self):
        most = "abcdefghijklmno"
        text = "drawing a 1 1\n" + "".join(stroke_line(most + tail) for tail in [""] + list(SIGNS))
        # Up to here it's a drawing's text: only what stands behind is held against the definition.
        self.assertEqual(judge(as_bytes(text)), [0])
        for name in (most, most + "a", most[:14], most[:14] + "p"):
            again = text + stroke_line(name)
            self.assertEqual(judge(as_bytes(again)), verdict(again), name)


if __name__ == "__main__":
    unittest.main()
