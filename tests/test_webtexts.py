import re
import unittest

from restdraw.errors import DrawError, NoText
from restdraw.webtexts import read_web, web_text
from tests.helper import ANYTHING, BOW, CHAIN, FOUR, TRIANGLE, all_tied, flat_webs, other_webs, plainly_web, star, wheel

TEXT = "0: 1 2\n1: 0 2\n2: 0 1\n"


def plainly_read(text):
    """The web of the text in other words, or None."""
    if re.fullmatch(r"(?:[0-9]+:(?: [0-9]+)+\n)+", text) is None or re.search(r"(?<![0-9])0[0-9]", text):
        return None
    rows = []
    for at, line in enumerate(text.splitlines()):
        head, row = line.split(":")
        if int(head) != at:
            return None
        rows.append(tuple(int(word) for word in row.split()))
    return tuple(rows) if plainly_web(tuple(rows)) else None


class TestWebTexts(unittest.TestCase):
    def refused(self, thing):
        with self.assertRaises(NoText) as taken:
            read_web(thing)
        self.assertIsInstance(taken.exception, DrawError)
        self.assertIsInstance(taken.exception, ValueError)

    def judge(self, text):
        """Read as in other words, or refused."""
        web = plainly_read(text)
        if web is None:
            self.refused(text)
        else:
            self.assertEqual(read_web(text), web)
            self.assertEqual(web_text(web), text)
        return web is not None

    def test_the_documents_own(self):
        self.assertEqual(web_text(TRIANGLE), TEXT)
        self.assertEqual(read_web(TEXT), TRIANGLE)

    def test_written_and_read(self):
        self.assertEqual(web_text(CHAIN), "0: 1\n1: 0 2\n2: 1\n")
        self.assertEqual(web_text(FOUR), "0: 1 3 2\n1: 0 2 3\n2: 0 3 1\n3: 0 1 2\n")
        self.assertTrue(web_text(star(12)).endswith("\n9: 0\n10: 0\n11: 0\n"))
        for web in flat_webs() + other_webs() + [all_tied(40)]:
            self.assertEqual(read_web(web_text(web)), web)

    def test_signs_put_in_put_otherwise_taken_out(self):
        read = 0
        for text in (TEXT, web_text(FOUR), web_text(CHAIN), web_text(star(12))):
            for at in range(len(text) + 1):
                for mark in "0123456789: \n-+,x\t~":
                    read += self.judge(text[:at] + mark + text[at:])
                    read += self.judge(text[:at] + mark + text[at + 1:]) and text[at:at + 1] != mark
                self.judge(text[:at] + text[at + 1:])
        # Hardly any change of one sign leads to another web.
        self.assertLess(read, 20)

    def test_lines_told_twice_taken_out_exchanged(self):
        for web in (TRIANGLE, FOUR, BOW, wheel(8), star(12)):
            lines = web_text(web).splitlines(True)
            for at in range(len(lines)):
                self.refused("".join(lines[:at + 1] + lines[at:]))
                self.refused("".join(lines[:at] + lines[at + 1:]))
                for other in range(at):
                    changed = list(lines)
                    changed[at], changed[other] = changed[other], changed[at]
                    self.refused("".join(changed))

    def test_ends_and_blanks(self):
        for text in (
            TEXT[:-1], TEXT + "\n", "\n" + TEXT, " " + TEXT, TEXT + " ", TEXT.replace("\n", "\r\n"),
            TEXT.replace("\n", " \n"), TEXT.replace(": ", ":  "), TEXT.replace(": ", ":"), TEXT.replace(":", ""),
            TEXT.replace("1 2", "1  2"), TEXT.replace("1 2", "1\t2"), TEXT.replace("\n", "\n\n"),
            TEXT.replace("\n", "\x0b"), TEXT.replace("\n", "\u2028"), TEXT.replace(" ", "\u00a0"),
        ):
            self.refused(text)

    def test_numbers_written_otherwise(self):
        for text in (
            TEXT.replace("1 2", "01 2"), TEXT.replace("1 2", "1 02"), "0" + TEXT, TEXT.replace("1 2", "+1 2"),
            TEXT.replace("0 2", "-0 2"), TEXT.replace("1", "\u0661"), TEXT.replace("2", "\u00b2"),
            TEXT.replace("1 2", "1 2" + "0" * 5000), "9" * 5000 + TEXT, TEXT.replace("1 2", "1_0 2"),
        ):
            self.refused(text)

    def test_texts_of_what_is_no_web(self):
        for rows in (
            ((1,), (0,)), ((),), ((2, 1), (0, 2), (0, 1)), ((1, 2), (2, 0), (0, 1)), ((0, 1), (0, 2), (1,)),
            ((1, 2, 2), (0, 2), (0, 1)), ((1, 2), (0,), (0,  1)), ((1, 3), (0, 2), (0, 1)),
            ((1,), (0,), (3,), (2,)), ((1, 2), (0, 2), (0, 1), ()), ((1, 2, -1), (0, 2), (0, 1)),
        ):
            text = "".join(f"{p}:" + "".join(f" {q}" for q in row) + "\n" for p, row in enumerate(rows))
            self.refused(text)

    def test_of_anything(self):
        for thing in ANYTHING + [TRIANGLE, [TEXT], (TEXT,), TEXT.encode()]:
            self.refused(thing)

    def test_what_is_handed_in_stays(self):
        lines = [TEXT]
        self.refused(lines)
        self.assertEqual(lines, [TEXT])


if __name__ == "__main__":
    unittest.main()
