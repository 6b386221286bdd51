"""The one form of every command, and what form answers."""

import unittest

from helper import PART, RECORD, all_asked, feed, form, form_of, run

# Commands as they may be told, with their one form.
FORMS = [
    ("patient 02 72.5kg 0350 plain", "patient 2 72500g 350 plain"),
    ("patient 8 300kg 1000 marked", "patient 8 300000g 1000 marked"),
    ("staff 08 doctor", "staff 8 doctor"),
    ("staff 1 nurse", "staff 1 nurse"),
    ("order 03 02 2.4L x012 catch 2h:03:600mL/h", "order 3 2 2400000uL x12 catch 7200s:3:600000uL/h"),
    ("order 16 8 100L x99 plain 1min:0:0uL/h 0.5h:1000:1.8L/h",
     "order 16 8 100000000uL x99 plain 60s:0:0uL/h 1800s:1000:1800000uL/h"),
    ("sign 016 08", "sign 16 8"),
    ("end 001", "end 1"),
    ("lot 016 line 01000 03650", "lot 16 line 1000 3650"),
    ("lot 1 filter 1 0", "lot 1 filter 1 0"),
    ("recall 01", "recall 1"),
    ("water ok", "water ok"),
    ("water bad", "water bad"),
    ("seat 08 04", "seat 8 4"),
    ("unseat 01", "unseat 1"),
    ("tick 0600", "tick 600"),
    ("book", "book"),
    ("test 01", "test 1"),
    ("lay 02", "lay 2"),
    ("prime 03 0100 drain", "prime 3 100 drain"),
    ("prime 3 1 round", "prime 3 1 round"),
    ("start 04 016", "start 4 16"),
    ("join 01", "join 1"),
    ("leave 01", "leave 1"),
    ("take 01 on", "take 1 on"),
    ("take 1 off", "take 1 off"),
    ("go 01", "go 1"),
    ("halt 01", "halt 1"),
    ("finish 01", "finish 1"),
    ("done 01", "done 1"),
    ("disinfect 01 0100", "disinfect 1 100"),
    ("rinse 01 01", "rinse 1 1"),
    ("clear 01", "clear 1"),
    ("bag 01 5mL", "bag 1 5000uL"),
    ("fault 01 A 01000", "fault 1 A 1000"),
    ("fault 1 B 0", "fault 1 B 0"),
    ("fault 01 A true", "fault 1 A true"),
    ("fault 1 B true", "fault 1 B true"),
    ("slip 01 artery on", "slip 1 artery on"),
    ("slip 1 vein off", "slip 1 vein off"),
    ("press 01 -0300 0100", "press 1 -300 100"),
    ("centre 01", "centre 1"),
    ("leak 01 01000000", "leak 1 1000000"),
    ("vent 01", "vent 1"),
    ("check 01", "check 1"),
    ("reset 01 07", "reset 1 7"),
    ("arm 01 01000000", "arm 1 1000000"),
    ("disarm 01", "disarm 1"),
    ("fail 01", "fail 1"),
    ("back 01", "back 1"),
    ("ask now", "ask now"),
    ("ask chair 04", "ask chair 4"),
    ("ask guard 04", "ask guard 4"),
    ("ask plant 04", "ask plant 4"),
    ("ask ledger 04", "ask ledger 4"),
    ("ask patient 08", "ask patient 8"),
    ("ask order 016", "ask order 16"),
    ("ask lot 016", "ask lot 16"),
    ("ask session 064", "ask session 64"),
    ("ask board", "ask board"),
]

# For every slot of every command: what stands ahead of it, its least and its greatest number, and what's behind it.
RANGES = [
    ("patient ", 1, 8, " 70kg 350 plain"), ("patient 1 ", 10000, 300000, "g 350 plain"),
    ("patient 1 70kg ", 0, 1000, " marked"), ("staff ", 1, 8, " nurse"), ("order ", 1, 16, " 1 1L x1 catch 1s:1:1uL/h"),
    ("order 1 ", 1, 8, " 1L x1 catch 1s:1:1uL/h"), ("order 1 1 ", 0, 100000000, "uL x1 plain 1s:1:1uL/h"),
    ("order 1 1 1L x", 1, 99, " plain 1s:1:1uL/h"), ("order 1 1 1L x1 plain ", 1, 28800, "s:1:1uL/h"),
    ("order 1 1 1L x1 plain 1s:", 0, 1000, ":1uL/h"), ("order 1 1 1L x1 plain 1s:1:", 0, 1800000, "uL/h"),
    ("order 1 1 1L x1 plain 1s:1:1uL/h ", 1, 28799, "s:1:1uL/h"), ("sign ", 1, 16, " 1"), ("sign 1 ", 1, 8, ""),
    ("end ", 1, 16, ""), ("lot ", 1, 16, " line 1 1"), ("lot 1 line ", 1, 1000, " 1"), ("lot 1 filter 1 ", 0, 3650, ""),
    ("recall ", 1, 16, ""), ("seat ", 1, 8, " 1"), ("seat 1 ", 1, 4, ""), ("unseat ", 1, 4, ""), ("tick ", 1, 600, ""),
    ("test ", 1, 4, ""), ("lay ", 1, 4, ""), ("prime ", 1, 4, " 1 drain"), ("prime 1 ", 1, 100, " round"),
    ("start ", 1, 4, " 1"), ("start 1 ", 1, 16, ""), ("join ", 1, 4, ""), ("leave ", 1, 4, ""), ("take ", 1, 4, " on"),
    ("go ", 1, 4, ""), ("halt ", 1, 4, ""), ("finish ", 1, 4, ""), ("done ", 1, 4, ""), ("disinfect ", 1, 4, " 1"),
    ("disinfect 1 ", 1, 100, ""), ("rinse ", 1, 4, " 1"), ("rinse 1 ", 1, 100, ""), ("clear ", 1, 4, ""),
    ("bag ", 1, 4, " 1L"), ("bag 1 ", 0, 5000000, "uL"), ("fault ", 1, 4, " A true"), ("fault 1 B ", 0, 1000, ""),
    ("slip ", 1, 4, " vein on"), ("press ", 1, 4, " 0 0"), ("press 1 ", -1000, 1000, " 0"),
    ("press 1 0 ", -1000, 1000, ""), ("centre ", 1, 4, ""), ("leak ", 1, 4, " 1"), ("leak 1 ", 0, 1000000, ""),
    ("vent ", 1, 4, ""), ("check ", 1, 4, ""), ("reset ", 1, 4, " 0"), ("reset 1 ", 0, 7, ""), ("arm ", 1, 4, " 0"),
    ("arm 1 ", 0, 1000000, ""), ("disarm ", 1, 4, ""), ("fail ", 1, 4, ""), ("back ", 1, 4, ""),
    ("ask chair ", 1, 4, ""), ("ask guard ", 1, 4, ""), ("ask plant ", 1, 4, ""), ("ask ledger ", 1, 4, ""),
    ("ask patient ", 1, 8, ""), ("ask order ", 1, 16, ""), ("ask lot ", 1, 16, ""), ("ask session ", 1, 64, ""),
]


class FormTest(unittest.TestCase):
    def test_every_command_has_its_one_form(self):
        for line, expected in FORMS:
            with self.subTest(line=line):
                self.assertEqual(form_of(line), expected)
                self.assertEqual(form_of("  " + line.replace(" ", "   ") + " "), expected)
                self.assertEqual(form_of(expected), expected)

    def test_the_count_and_the_bytes(self):
        self.assertEqual(run(form("bag 1 5mL")), [[12] + list(b"bag 1 5000uL")])

    def test_both_ends_of_each_range_and_one_beyond(self):
        for ahead, least, greatest, behind in RANGES:
            for number in (least, greatest):
                line = ahead + str(number) + behind
                with self.subTest(line=line):
                    self.assertIsInstance(form_of(line), str)
                    answer = run(feed(line + "\n"))[0]
                    self.assertNotIn(answer, ([1, 1, -1], [1, 1, -100]))
            for number in (least - 1, greatest + 1):
                line = ahead + str(number) + behind
                none = number == -1
                with self.subTest(line=line):
                    self.assertEqual(form_of(line), [-3] if none else [-4])
                    self.assertEqual(run(feed(line + "\n"), RECORD), [[1, 1, -100 if none else -1], [0]])

    def test_minus_1(self):
        for row in ([256], [-1], [10], list(b"water ok\n"), [10] + list(b"water ok"), list(b"water ok") + [256],
                    [32] * 257, list(b"water ok" + b" " * 249), [2 ** 63 - 1], [-2 ** 63], [32] * 4998):
            with self.subTest(row=row[:20]):
                self.assertEqual(run(form(row)), [[-1]])

    def test_256_bytes(self):
        self.assertEqual(form_of("water ok" + " " * 248), "water ok")
        self.assertEqual(form_of("x" * 256), [-3])
        self.assertEqual(form_of([0, 255]), [-3])

    def test_minus_3(self):
        for line in ("", " ", "x", "# water ok", "#", "#water ok", "water ok #", "water", "ask", "tick -1", "tick 1s",
                     "bag 1 0.5uL", "order 1 1 1L x1 catch x", "order 9 9 1L x0 catch 1s"):
            with self.subTest(line=line):
                self.assertEqual(form_of(line), [-3])

    def test_minus_4_of_order(self):
        eight = " ".join(["3600s:1:1uL/h"] * 8)
        for line, answer in (("order 1 1 1L x1 catch", [-4]), ("order 1 1 1L x1 plain", [-4]),
                             ("order 1 1 1L x1 catch " + " ".join(["1s:1:1uL/h"] * 9), [-4]),
                             ("order 1 1 1L x1 plain " + eight, "order 1 1 1000000uL x1 plain " + eight),
                             ("order 1 1 1L x1 plain " + eight.replace("3600", "3601", 1), [-4]),
                             ("order 1 1 1L x1 plain 14400s:1:1uL/h 14401s:1:1uL/h", [-4]),
                             ("order 1 1 1L x1 plain 1s:0:1uL/h", "order 1 1 1000000uL x1 plain 1s:0:1uL/h")):
            with self.subTest(line=line):
                self.assertEqual(form_of(line), answer)

    def test_a_later_piece_out_of_range(self):
        for piece in ("0s:1:1uL/h", "1s:1001:1uL/h", "1s:1:1800001uL/h"):
            self.assertEqual(form_of("order 1 1 1L x1 plain 1s:1:1uL/h " + piece), [-4])

    def test_nothing_is_done(self):
        calls = [form(line) for line, expected in FORMS[:30]]
        found = run(feed("ab"), *calls, PART, RECORD, feed("\nask now\n"))
        self.assertEqual(found[-3:], [[2, 0], [0], [2, 1, -100, 8, 0, 0, 0, 0, 0, 0, 0, 0]])
        self.assertEqual(all_asked(""), all_asked("ask now\n"))

    def test_form_asks_no_refusals_of_the_clinic(self):
        self.assertEqual(form_of("seat 1 1"), "seat 1 1")
        self.assertEqual(form_of("ask patient 1"), "ask patient 1")
