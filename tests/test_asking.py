"""Asking: each of its forms on a new clinic and on one in use, and what isn't there."""

from helper import (CLINIC, JOINED, LAID, QUESTIONS, SPENT, TREATING, ClinicTest, all_asked, asked, last, record_of,
                    told)

IN_USE = JOINED + "take 1 on\ngo 1\ntick 25\n"


class NewClinicTest(ClinicTest):
    def test_all_of_it(self):
        plant = [0, 0, 0, 0, 0, 16000] + [0] * 12 + [0, 0, 0, 1] + [0] * 8
        self.check_last("ask now\n", 0, 0, 0, 0, 0, 0, 0, 0)
        self.check_last("ask board\n", 0)
        for chair in (1, 2, 3, 4):
            self.check_last("ask chair %d\n" % chair, 0, 0, 1, *[0] * 14)
            self.check_last("ask guard %d\n" % chair, *[0] * 13)
            self.check_last("ask plant %d\n" % chair, *plant)
            self.check_last("ask ledger %d\n" % chair, 0, 0, 0, 0, 0)

    def test_what_is_not_there(self):
        for kind, most in (("patient", 8), ("order", 16), ("lot", 16), ("session", 64)):
            for number in range(1, most + 1):
                self.check_last("ask %s %d\n" % (kind, number), -3)

    def test_numbers_out_of_their_ranges(self):
        for kind, most in (("chair", 4), ("guard", 4), ("plant", 4), ("ledger", 4), ("patient", 8), ("order", 16),
                           ("lot", 16), ("session", 64)):
            for number in (0, most + 1, 999999999):
                self.check_last("ask %s %d\n" % (kind, number), -1)
                self.check_last(IN_USE + "ask %s %d\n" % (kind, number), -1)


class InUseTest(ClinicTest):
    def test_now(self):
        self.check_last(IN_USE + "ask now\n", 0, 25, 0, 1, 0, 1, 1, len(record_of(IN_USE)))

    def test_chair(self):
        self.check_last(IN_USE + "ask chair 1\n", 0, 1, 1, 3, 1, 1, 1, 1, 0, 1, 1, 2, 2000000, 25, 6250, 625, 6250)
        self.check_last(IN_USE + "ask chair 2\n", 0, 0, 1, *[0] * 14)
        self.check_last(IN_USE + "water bad\nask chair 1\n", 0, 1, 1, 3, 1, 1, 1, 0, 0, 1, 1, 2, 2000000, 25, 6250, 625,
                        6250)
        self.assertEqual(asked(IN_USE + "end 1\n", "chair")["allowed"], 0)
        self.assertEqual(asked(IN_USE + "finish 1\n", "chair")["allowed"], 1)
        self.assertEqual(asked(SPENT, "chair")["allowed"], 0)
        self.assertEqual(asked(LAID, "chair")["allowed"], 0)
        self.assertEqual(asked(IN_USE + "fail 1\n", "chair")["allowed"], 1)

    def test_guard(self):
        self.check_last(IN_USE + "fault 1 B 70\ntick 1\nask guard 1\n", 0, 5, 4, 70, 1, 0, 0, 0, 8000, 2, 350, 4980000, 1)
        self.check_last(IN_USE + "leak 1 1000\nleave 1\nhalt 1\ntick 3\nask guard 1\n",
                        0, 5, 4, 0, 0, 1, 0, 3, 8000, 2, 350, 4980000, 2)
        self.check_last(TREATING + "join 1\ngo 1\ntick 4\nask guard 1\n", 0, 5, 4, 0, 0, 0, 4, 0, 8000, 2, 350, 4980000, 1)

    def test_the_readings(self):
        self.check_last(LAID + "bag 1 5L\nprime 1 2 drain\nask guard 1\n", 1, 0, 2, 2000, 0, 0, 0, 0, 2000, 1, 0, 4998000,
                        0)

    def test_plant(self):
        # 20 moves of priming and 25 joined: 16 of the bag's cells and then 9 of blood went back.
        # The first 12 of these lost no water, for they had passed the dialyser; the others 250 each.
        given_water = 16 * 1000 - 4 * 250 + 9 * (650 - 250)
        self.check_last(IN_USE + "ask plant 1\n", 0, 25 * 350, 25 * 650, 0, 20000, 32000, 9 * 350, given_water, 0, 0, 0, 0,
                        0, 4000, 8000, 0, 0, 16000, 6250, 0, 45, 2, 0, 0, 0, 0, 0, 0, 0, 0)
        self.check_last("disinfect 1 2\nrinse 1 1\nask plant 1\n", 0, 0, 0, 0, 0, 16000, *[0] * 15, 1, 5, 1000, 1000, 0, 0,
                        0, 35, 1)

    def test_ledger(self):
        self.check_last(IN_USE + "ask ledger 1\n", 0, 0, 0, 3, 0)

    def test_patient(self):
        self.check_last(IN_USE + "ask patient 1\n", 0, 70000, 350, 0, 1, 25 * 350, 9 * 350)

    def test_order(self):
        self.check_last(IN_USE + "ask order 1\n", 0, 1, 2000000, 9, 1, 1, 1, 2, 0, 1)

    def test_lot(self):
        self.check_last(IN_USE + "ask lot 1\n", 0, 1, 100, 9, 8, 0, 1)
        self.check_last(IN_USE + "recall 2\nask lot 2\n", 0, 0, 100, 9, 8, 1, 0)

    def test_session(self):
        self.check_last(IN_USE + "ask session 1\n", 0, 1, 1, 1, 0, 1, 2, 6250)
        self.check_last(IN_USE + "leave 1\ndone 1\nask session 1\n", 0, 1, 1, 1, 0, 1, 2, 6250)
        self.check_last(IN_USE + "ask session 2\n", -3)

    def test_numbers_of_chairs_and_staff(self):
        text = CLINIC.replace("seat 1 1", "seat 1 3").replace("staff 1", "staff 7").replace("sign 1 1", "sign 1 7")
        self.check_last(text + "ask chair 3\n", 0, 1, 1, *[0] * 14)
        self.check_last(text + "ask order 1\n", 0, 1, 2000000, 9, 0, 1, 7, 2, 0, 1)


class NothingChangesTest(ClinicTest):
    def test_asking_changes_nothing(self):
        for text in ("", CLINIC, IN_USE, SPENT):
            self.assertEqual(all_asked(text + "\n".join(QUESTIONS * 2) + "\n"), all_asked(text))
            self.assertEqual(record_of(text + "\n".join(QUESTIONS) + "\n"), record_of(text))

    def test_without_power(self):
        self.assertEqual(last(IN_USE + "fail 1\nask chair 1\n")[:3], [0, 1, 0])
        self.assertEqual(len(told(IN_USE + "fail 1\nask plant 1\n")[-1]), 30)
