"""Point 1.6."""

import unittest

from namelessly.errors import BadText
from namelessly.texts import read_web, web_text
from namelessly.webs import Web, copies
from tests.support import Checks, path, random_webs

GOOD = ["place b red", "place a x1", "tie b a k 2", "place c x1", "tie c a k 10"]


class TextsTest(Checks, unittest.TestCase):

    def refuses_line(self, at, lines):
        text = lines if isinstance(lines, str) else "\n".join(lines)
        self.refuses(BadText, at, read_web, text)

    def test_the_text_of_a_web(self):
        web = Web([("b", "red"), ("a", "x1"), ("c", "x1")], [("c", "a", "k", 10), ("a", "b", "k", 2)])
        text = "place b red\nplace a x1\nplace c x1\ntie b a k 2\ntie a c k 10"
        self.same(web_text(web), text)
        self.same(web_text(Web([("a", "x")], [])), "place a x")
        self.assertTrue(read_web(text) == web)
        self.assertTrue(read_web("\n".join(GOOD)) == web)

    def test_there_and_back(self):
        for web in random_webs(2, 100) + [copies(path(5), 48)[0], path(2, width=10 ** 39)]:
            text = web_text(web)
            self.assertTrue(read_web(text) == web)
            self.assertEqual(web_text(read_web(text)), text)

    def test_words_of_lines_may_be_names(self):
        web = read_web("place place tie\nplace tie place\ntie tie place tie 1")
        self.assertEqual(web.ties(), [("place", "tie", "tie", 1)])

    def test_lines_that_are_of_no_form(self):
        for line in [
            "", " ", "place", "tie", "place d", "place d x y", "place  d x", "place d  x", " place d x", "place d x ",
            "Place d x", "places d x", "plac d x", "d x", "place D x", "place d X", "place 1 x", "place d 1",
            "place abcdefghi x", "place d a12345", "place d ~", "place -d x", "placed x", "place d ", "place  x",
            "tie a b j ", "tie a b  1", "tie  b j 1",
            "tie a b", "tie a b j", "tie a b j 1 1", "tie  a b j 1", "tie a b  j 1", "tie a b j  1", " tie a b j 1",
            "tie a b j 1 ", "Tie a b j 1", "ties a b j 1", "a b j 1", "tie a b J 1", "tie a b 1 1", "tie a b ij- 1",
            "tie a b j 0", "tie a b j 00", "tie a b j 01", "tie a b j +1", "tie a b j -1", "tie a b j 1.0",
            "tie a b j 1e2", "tie a b j x", "tie a b j 0x1", "tie a b j 1_0", "tie a b j 1a", "tie A b j 1",
            "place tie a b j 1", "tie place d x",
        ]:
            self.refuses_line(0, [line] + GOOD)
            self.refuses_line(2, GOOD[:2] + [line] + GOOD[2:])
            self.refuses_line(5, GOOD + [line])
            self.refuses_line(3, GOOD[:3] + [line, "neither"])

    def test_lines_that_others_forbid(self):
        self.refuses_line(2, GOOD[:2] + ["place b red"])
        self.refuses_line(3, GOOD[:3] + ["place a blue"] + GOOD[3:])
        self.refuses_line(3, GOOD[:3] + ["tie c a k 1", "place c x1"])
        self.refuses_line(3, GOOD[:3] + ["tie a c k 1", "place c x1"])
        self.refuses_line(0, ["tie a b k 1"] + GOOD)
        self.refuses_line(3, GOOD[:3] + ["tie a b k 2"])
        self.refuses_line(5, GOOD + ["tie b a k 3"])
        self.refuses_line(2, GOOD[:2] + ["tie a a k 1"])
        self.refuses_line(2, GOOD[:2] + ["tie d d k 1"])
        self.assertEqual(len(read_web("\n".join(GOOD + ["tie a b j 2", "tie b c k 1"])).ties()), 4)

    def test_ends_of_the_text(self):
        self.refuses_line(0, "")
        self.refuses_line(0, "\n")
        self.refuses_line(5, "\n".join(GOOD) + "\n")
        self.refuses_line(0, "\n" + "\n".join(GOOD))
        self.refuses_line(1, "place a x\n\nplace b x")

    def test_widths_in_digits(self):
        for width in ["1", "9", "10", "99", "100", "1" + "0" * 39]:
            web = read_web("place a x\nplace b x\ntie b a k " + width)
            self.same(web.ties(), [("a", "b", "k", int(width))])


if __name__ == "__main__":
    unittest.main()
