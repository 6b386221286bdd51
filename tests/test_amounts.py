"""Numbers and amounts, as they stand in lines and in forms."""

import unittest

from helper import feed, form_of, run, told


class AmountTest(unittest.TestCase):
    def check_none(self, line):
        self.assertEqual(told(line + "\n"), [[-100]], line)
        self.assertEqual(form_of(line), [-3], line)

    def check_range(self, line):
        self.assertEqual(told(line + "\n"), [[-1]], line)
        self.assertEqual(form_of(line), [-4], line)


class NumberTest(AmountTest):
    def test_nine_and_ten_digits(self):
        self.assertEqual(form_of("tick 000000600"), "tick 600")
        self.check_none("tick 0000000600")
        self.check_range("tick 999999999")
        self.check_none("tick 1000000000")
        self.assertEqual(told("tick 000000001\n"), [[0, 1] + [0] * 8])

    def test_zeros_in_front(self):
        self.assertEqual(form_of("seat 01 002"), "seat 1 2")
        self.assertEqual(form_of("arm 1 000"), "arm 1 0")

    def test_what_is_no_number(self):
        for word in ("", "-1", "+1", "1.0", "1s", "x", "1x", "0x1", "1_0", "-", "1,0", "--1"):
            self.check_none("tick " + word)

    def test_other_digits_are_none(self):
        for byte in (47, 58, 178, 185, 255):
            self.assertEqual(run(feed(list(b"tick 1") + [byte, 10]))[0], [1, 1, -100])

    def test_signed_numbers(self):
        for words, told_words in (("-1 1", "-1 1"), ("-001 0001", "-1 1"), ("-0 0", "0 0"), ("-000000000 5", "0 5"),
                                  ("-1000 1000", "-1000 1000"), ("1000 -1000", "1000 -1000")):
            self.assertEqual(form_of("press 1 " + words), "press 1 " + told_words)
        for word in ("-1001", "1001", "-999999999", "999999999"):
            self.check_range("press 1 0 " + word)
            self.check_range("press 1 %s 0" % word)
        for word in ("--1", "+1", "-", "1-", "-x", "-1.0", "-1000000000", "1000000000", "0000000001", "-0000000001"):
            self.check_none("press 1 0 " + word)
            self.check_none("press 1 %s 0" % word)

    def test_times(self):
        self.assertEqual(form_of("order 1 1 1L x007 plain 1s:1:1uL/h"), "order 1 1 1000000uL x7 plain 1s:1:1uL/h")
        for word in ("7", "x", "xx7", "x-7", "x 7", "7x", "X7", "x7.0", "x0000000007"):
            self.check_none("order 1 1 1L %s plain 1s:1:1uL/h" % word)
        for word in ("x0", "x100", "x999999999"):
            self.check_range("order 1 1 1L %s plain 1s:1:1uL/h" % word)


class UnitTest(AmountTest):
    def test_volume(self):
        for word, worth in (("5uL", 5), ("5mL", 5000), ("5L", 5000000), ("0uL", 0), ("0.5mL", 500), ("0.001mL", 1),
                            ("1.25L", 1250000), ("0.000001L", 1), ("4.999999L", 4999999), ("007mL", 7000),
                            ("1.000000000uL", 1), ("0.001000000mL", 1), ("12.340mL", 12340), ("000000001.5mL", 1500)):
            self.assertEqual(form_of("bag 1 " + word), "bag 1 %duL" % worth)

    def test_mass(self):
        for word, worth in (("72500g", 72500), ("72.5kg", 72500), ("10kg", 10000), ("010.001kg", 10001),
                            ("10000.0g", 10000)):
            self.assertEqual(form_of("patient 2 %s 350 plain" % word), "patient 2 %dg 350 plain" % worth)

    def test_time(self):
        for word, worth in (("5s", 5), ("5min", 300), ("5h", 18000), ("0.5min", 30), ("0.25h", 900), ("1.0s", 1),
                            ("0.05min", 3), ("0.0025h", 9), ("0.1min", 6)):
            self.assertEqual(form_of("order 1 1 1L x1 plain %s:1:1uL/h" % word),
                             "order 1 1 1000000uL x1 plain %ds:1:1uL/h" % worth)

    def test_rate(self):
        for word, worth in (("5uL/h", 5), ("5mL/h", 5000), ("1L/h", 1000000), ("0.5mL/h", 500), ("1.8L/h", 1800000)):
            self.assertEqual(form_of("order 1 1 1L x1 plain 1s:1:" + word),
                             "order 1 1 1000000uL x1 plain 1s:1:%duL/h" % worth)

    def test_amounts_that_do_not_come_out_whole(self):
        for word in ("0.5uL", "0.0005mL", "1.0005mL", "0.0000001L", "1.000000001uL", "0.123456789L"):
            self.check_none("bag 1 " + word)
        for word in ("70000.5g", "70.0005kg"):
            self.check_none("patient 1 %s 350 plain" % word)
        for word in ("1.5s", "0.01min", "0.0001h", "0.025min"):
            self.check_none("order 1 1 1L x1 plain %s:1:1uL/h" % word)
        for word in ("0.5uL/h", "0.0001mL/h"):
            self.check_none("order 1 1 1L x1 plain 1s:1:" + word)

    def test_wrong_case(self):
        for word in ("5ul", "5UL", "5ML", "5ml", "5l", "5Ul"):
            self.check_none("bag 1 " + word)
        for word in ("70KG", "70Kg", "70kG", "70000G"):
            self.check_none("patient 1 %s 350 plain" % word)
        for word in ("5S", "5Min", "5H", "5MIN"):
            self.check_none("order 1 1 1L x1 plain %s:1:1uL/h" % word)
        for word in ("5uL/H", "5ul/h", "5l/h", "5ML/h"):
            self.check_none("order 1 1 1L x1 plain 1s:1:" + word)

    def test_units_of_another_kind(self):
        for word in ("5", "5s", "5g", "5kg", "5uL/h", "5L/h", "5min", "5h"):
            self.check_none("bag 1 " + word)
        for word in ("70000", "70L", "70s", "70uL/h"):
            self.check_none("patient 1 %s 350 plain" % word)
        for word in ("5", "5L", "5g", "5uL/h"):
            self.check_none("order 1 1 1L x1 plain %s:1:1uL/h" % word)
        for word in ("5", "5L", "5uL", "5h", "5/h", "5s"):
            self.check_none("order 1 1 1L x1 plain 1s:1:" + word)

    def test_forms_of_an_amount(self):
        for word in ("mL", ".5mL", "5.mL", "5..5mL", "5.5.5mL", "-5mL", "+5mL", "5 mL", "5mLx", "5 . 5mL", "5,5mL",
                     "5mL/", "5uLL", "5m", "5u", ".mL", "5.", "5.0", "", "x5mL"):
            self.check_none("bag 1 " + word)

    def test_nine_and_ten_digits(self):
        self.assertEqual(form_of("bag 1 000000005.000000000mL"), "bag 1 5000uL")
        self.assertEqual(form_of("bag 1 000000005mL"), "bag 1 5000uL")
        self.check_none("bag 1 0000000005mL")
        self.check_none("bag 1 0000000005.5mL")
        self.check_none("bag 1 5.0000000000mL")
        self.check_range("bag 1 999999999.999999L")
        self.check_range("bag 1 999999999L")


class PieceTest(AmountTest):
    def test_the_document_s_piece(self):
        self.assertEqual(form_of("order 3 2 2.4L x12 catch 2h:3:600mL/h"),
                         "order 3 2 2400000uL x12 catch 7200s:3:600000uL/h")

    def test_colons(self):
        for word in ("2h", "2h:3", "2h:3:600mL/h:", ":2h:3:600mL/h", "2h:3:600mL/h:4", "2h::3:600mL/h", "2h::600mL/h",
                     ":3:600mL/h", "2h:3:", "::", ":", "2h;3;600mL/h", "2h:3:4:600mL/h"):
            self.check_none("order 1 1 1L x1 catch " + word)
            self.check_none("order 1 1 1L x1 plain 1s:1:1uL/h " + word)

    def test_what_stands_between_the_colons(self):
        for word in ("2:3:600mL/h", "2h:3s:600mL/h", "2h:-3:600mL/h", "2h:3.0:600mL/h", "2h:3:600mL", "-2h:3:600mL/h",
                     "2h:3:600", "3:2h:600mL/h", "2h:x3:600mL/h", "2h:3:-600mL/h", "2h:0000000003:600mL/h"):
            self.check_none("order 1 1 1L x1 catch " + word)

    def test_every_word_has_to_be_a_piece_ahead_of_how_many_there_are(self):
        nine = " ".join(["1s:1:1uL/h"] * 9)
        self.check_range("order 1 1 1L x1 catch " + nine)
        self.check_none("order 1 1 1L x1 catch " + nine + " x")
        self.check_none("order 0 1 1L x1 catch x")
        self.check_none("order 0 1 1L x1 catch 1s:1:1uL/h 1s:1:1uL/h 1s:1")
