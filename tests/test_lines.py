"""Bytes and lines: the part, lines that are too long, words, and lines that are done by nothing."""

import unittest

from helper import PART, RECORD, feed, run, told


class PartTest(unittest.TestCase):
    def test_a_line_in_pieces(self):
        found = run(feed("wa"), PART, feed("ter"), PART, feed(" ok"), PART, feed("\nask"), PART, feed(" now\n"), PART)
        self.assertEqual(found, [[0], [2, 0], [0], [5, 0], [0], [8, 0], [1, 1, 0], [3, 0],
                                 [1, 8, 0, 0, 0, 1, 0, 1, 0, 9], [0, 0]])

    def test_every_way_to_cut_a_text(self):
        text = "water ok\n\n#\ntick 3\nask now\nx"
        whole = run(feed(text), PART, RECORD)
        for cut in range(len(text) + 1):
            found = run(feed(text[:cut]), feed(text[cut:]), PART, RECORD)
            self.assertEqual(found[0][0] + found[1][0], whole[0][0])
            self.assertEqual(found[0][1:] + found[1][1:], whole[0][1:])
            self.assertEqual(found[2:], whole[1:])

    def test_parts_of_255_256_and_257_bytes(self):
        for length, part, answer in ((255, [255, 0], [1, 1, -100]), (256, [256, 0], [1, 1, -100]),
                                     (257, [256, 1], [1, 1, -98]), (400, [256, 1], [1, 1, -98])):
            with self.subTest(length=length):
                self.assertEqual(run(feed("x" * length), PART, feed("\n"), PART), [[0], part, answer, [0, 0]])

    def test_256_bytes_that_are_a_command(self):
        line = "water ok"
        self.assertEqual(told(line + " " * (256 - len(line)) + "\n"), [[0]])
        self.assertEqual(told(line + " " * (257 - len(line)) + "\n"), [[-98]])
        self.assertEqual(told(" " * (256 - len(line)) + line + "\n"), [[0]])
        self.assertEqual(told(" " * 257 + "\n"), [[-98]])
        self.assertEqual(told("#" + "x" * 255 + "\n"), [[]])
        self.assertEqual(told("#" + "x" * 256 + "\n"), [[-98]])

    def test_the_line_behind_one_that_is_too_long(self):
        self.assertEqual(told("x" * 300 + "\nwater ok\nask now\n"), [[-98], [0], [0, 0, 0, 1, 0, 1, 0, 9]])
        self.assertEqual(told("x" * 300 + "\n" + "y" * 256 + "\n"), [[-98], [-100]])
        self.assertEqual(run(feed("x" * 300), PART, feed("yy"), PART, feed("\nzz"), PART),
                         [[0], [256, 1], [0], [256, 1], [1, 1, -98], [2, 0]])

    def test_the_257th_byte_alone_makes_it_too_long(self):
        self.assertEqual(run(feed("x" * 256), PART, feed("x"), PART, feed("\n")),
                         [[0], [256, 0], [0], [256, 1], [1, 1, -98]])

    def test_a_line_that_is_too_long_is_not_written_down(self):
        self.assertEqual(run(feed("water ok" + " " * 300 + "\n"), RECORD), [[1, 1, -98], [0]])


class FeedTest(unittest.TestCase):
    def test_4096_and_4097_bytes(self):
        for length, answer, part in ((4096, [0], [256, 1]), (4097, [-1], [2, 0])):
            with self.subTest(length=length):
                self.assertEqual(run(feed("ab"), feed("x" * length), PART), [[0], answer, part])
        self.assertEqual(run(feed("\n" * 4096))[0], [4096] + [0] * 4096)
        self.assertEqual(run(feed("\n" * 4097), feed("\n" * 4998), PART), [[-1], [-1], [0, 0]])

    def test_bytes_out_of_range_read_nothing(self):
        for wrong in (-1, 256, 10 ** 18, -10 ** 18):
            for row in ([wrong], list(b"water ok\n") + [wrong], [wrong] + list(b"water ok\n")):
                with self.subTest(row=row):
                    self.assertEqual(run(feed("ab"), feed(row), PART, RECORD), [[0], [-1], [2, 0], [0]])

    def test_the_bytes_0_and_255_are_read(self):
        self.assertEqual(run(feed([0, 255]), PART, feed([10])), [[0], [2, 0], [1, 1, -100]])

    def test_a_part_stays_through_a_refused_feed(self):
        self.assertEqual(run(feed("water "), feed([300]), feed("ok\n")), [[0], [-1], [1, 1, 0]])


class WordsTest(unittest.TestCase):
    def test_blanks(self):
        self.assertEqual(told("water ok\n  water ok\nwater ok  \nwater    ok\n   water   ok   \n"), [[0]] * 5)

    def test_lines_without_words(self):
        self.assertEqual(told("\n \n    \n" + " " * 256 + "\n"), [[]] * 4)

    def test_lines_that_begin_with_35(self):
        self.assertEqual(told("#\n# water ok\n#water ok\n   # x\n##\n#\xff\n"), [[]] * 6)
        self.assertEqual(run(feed("# water ok\n"), RECORD)[1], [0])

    def test_35_elsewhere_is_no_remark(self):
        self.assertEqual(told("water # ok\nwater ok #\nwater ok#\nx#\n"), [[-100]] * 4)

    def test_only_32_is_a_blank(self):
        for byte in range(256):
            if byte not in (10, 32):
                with self.subTest(byte=byte):
                    self.assertEqual(run(feed(list(b"water") + [byte] + list(b"ok\n")))[0], [1, 1, -100])
                    self.assertEqual(run(feed(list(b"water ok") + [byte, 10]))[0], [1, 1, -100])
                    self.assertEqual(run(feed([byte, 10]))[0], [1, 0] if byte == 35 else [1, 1, -100])

    def test_bytes_that_are_far_from_a_letter(self):
        for apart in (-128, -96, -95, -64, -32, 32, 64, 95, 96, 128):
            row = [byte + apart if byte != 32 and 0 <= byte + apart <= 255 else byte for byte in b"water ok"]
            if row != list(b"water ok") and 10 not in row:
                self.assertEqual(run(feed(row + [10]))[0], [1, 1, -100], apart)

    def test_lines_that_are_no_command(self):
        lines = ["x", "water", "water ok ok", "water good", "Water ok", "water OK", "waterok", "ask", "ask x",
                 "ask now 1", "ask chair", "ask chair 1 1", "book 1", "tick", "tick 1 1", "tick x", "tick -1",
                 "take 1", "take 1 up", "take on 1", "take 1 choice", "patient 1 70kg 350", "patient 1 70kg 350 plain plain",
                 "prime 1 1", "prime 1 drain", "fault 1 C 5", "fault 1 a 5", "fault 1 A", "fault 1 A false",
                 "fault 1 A -1", "slip 1 artery", "slip 1 heart on", "slip 1 vein true", "press 1 1", "press 1 x 1",
                 "order 1 1 1L x1", "order 1 1 1L 1 catch 1s:1:1uL/h", "order 1 1 1L x1 both 1s:1:1uL/h",
                 "order 1 1 1L x catch 1s:1:1uL/h", "order 1 1 1L X1 catch 1s:1:1uL/h", "lot 1 bag 1 1",
                 "lot 1 line 1 1d", "staff 1 cook", "seat 1", "reset 1", "arm 1", "ask now now", "ask board 1", "now"]
        for line in lines:
            with self.subTest(line=line):
                self.assertEqual(run(feed(line + "\n"), RECORD), [[1, 1, -100], [0]])
