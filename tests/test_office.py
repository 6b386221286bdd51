"""Commands of the clinic: their refusals in the order told, what they do, and their answers."""

from clinicdesk.holdings import Clinic
from helper import CLINIC, JOINED, LAID, PEOPLE, PRIMED, RETURNING, SPENT, STOCK, TREATING, ClinicTest, do, last, told


class PatientTest(ClinicTest):
    def test_a_new_one(self):
        self.check_written("", "patient 1 10kg 0 plain", 0)
        self.check_last("patient 1 10kg 0 plain\nask patient 1\n", 0, 10000, 0, 0, 0, 0, 0)
        self.check_last("patient 8 300kg 1000 marked\nask patient 8\n", 0, 300000, 1000, 1, 0, 0, 0)

    def test_known_anew(self):
        self.check_last("patient 1 10kg 0 plain\npatient 1 20kg 5 marked\nask patient 1\n", 0, 20000, 5, 1, 0, 0, 0)
        self.check_last("patient 1 10kg 0 marked\npatient 1 20kg 5 plain\nask patient 1\n", 0, 20000, 5, 0, 0, 0, 0)

    def test_what_was_drawn_and_given_stays(self):
        text = JOINED + "go 1\ntick 20\nleave 1\ndone 1\nunseat 1\n"
        before = last(text + "ask patient 1\n")
        self.assertEqual(before[5:], [20 * 350, 4 * 350])
        self.check_last(text + "patient 1 60kg 400 marked\nask patient 1\n", 0, 60000, 400, 1, 0, *before[5:])

    def test_seated(self):
        self.check_refused(CLINIC, "patient 1 70kg 350 plain", -3)
        self.check_last(CLINIC + "unseat 1\npatient 1 70kg 350 marked\n", 0)
        self.check_last(CLINIC + "patient 2 70kg 350 plain\n", 0)


class StaffTest(ClinicTest):
    def test_staff(self):
        self.check_written("", "staff 1 doctor", 0)
        self.check_written("", "staff 8 nurse", 0)
        for line in ("staff 1 doctor", "staff 1 nurse"):
            self.check_refused("staff 1 doctor\n", line, -3)
            self.check_refused("staff 1 nurse\n", line, -3)


class OrderTest(ClinicTest):
    def test_an_order(self):
        self.check_written(PEOPLE, "order 16 1 1.5L x3 plain 1h:1:1mL/h 2h:0:2mL/h", 0)
        self.check_last(PEOPLE + "order 16 1 1.5L x3 plain 1h:1:1mL/h 2h:0:2mL/h\nask order 16\n",
                        0, 1, 1500000, 3, 0, 0, 0, 0, 0, 2)
        self.check_last(PEOPLE + "order 1 1 0uL x99 catch 1s:1:0uL/h\nask order 1\n", 0, 1, 0, 99, 0, 1, 0, 0, 0, 1)

    def test_refusals_in_order(self):
        order = "order 1 1 1L x1 catch 1h:1:1mL/h\n"
        for line in ("order 1 1 1L x1 plain 1h:1:1mL/h", "order 1 2 1L x1 plain 1h:1:1mL/h",
                     "order 1 2 1L x1 plain 1h:0:1mL/h"):
            self.check_refused(PEOPLE + order, line, -3)
            self.check_refused(PEOPLE + order + "end 1\n", line, -3)
        self.check_refused(PEOPLE, "order 1 2 1L x1 plain 1h:1:1mL/h", -4)
        self.check_refused(PEOPLE, "order 1 2 1L x1 plain 1h:0:1mL/h", -4)
        self.check_refused(PEOPLE, "order 1 1 1L x1 plain 1h:0:1mL/h", -5)
        self.check_refused(PEOPLE, "order 1 1 1L x1 plain 1h:0:1mL/h 5s:0:1mL/h", -5)
        self.check_last(PEOPLE + "order 1 1 1L x1 plain 1h:0:1mL/h 1s:1:1mL/h\n", 0)

    def test_pieces(self):
        eight = " ".join(["1h:1:1mL/h"] * 8)
        self.check_refused(PEOPLE, "order 1 1 1L x1 catch", -1)
        self.check_refused(PEOPLE, "order 1 1 1L x1 catch " + " ".join(["1s:1:1mL/h"] * 9), -1)
        self.check_refused(PEOPLE, "order 1 1 1L x1 catch " + eight.replace("1h:", "3601s:", 1), -1)
        self.check_written(PEOPLE, "order 1 1 1L x1 catch " + eight, 0)
        self.check_last(PEOPLE + "order 1 1 1L x1 catch " + eight + "\nask order 1\n", 0, 1, 1000000, 1, 0, 1, 0, 0, 0, 8)


class SignTest(ClinicTest):
    ORDER = PEOPLE + "staff 3 doctor\nstaff 4 nurse\norder 1 1 4.2L x1 catch 1h:1:910mL/h\n"

    def test_both_sign(self):
        self.check_written(self.ORDER, "sign 1 1", 0)
        self.check_last(self.ORDER + "sign 1 3\nask order 1\n", 0, 1, 4200000, 1, 0, 1, 3, 0, 0, 1)
        self.check_last(self.ORDER + "sign 1 4\nask order 1\n", 0, 1, 4200000, 1, 0, 1, 0, 4, 0, 1)
        self.check_last(self.ORDER + "sign 1 2\nsign 1 1\nask order 1\n", 0, 1, 4200000, 1, 0, 1, 1, 2, 0, 1)

    def test_refusals_in_order(self):
        self.check_refused(self.ORDER, "sign 2 8", -3)
        self.check_refused(self.ORDER, "sign 1 8", -4)
        self.check_refused(self.ORDER + "end 1\n", "sign 1 8", -4)
        for line in ("sign 1 1", "sign 1 3"):
            self.check_refused(self.ORDER + "sign 1 1\n", line, -5)
            self.check_refused(self.ORDER + "sign 1 1\nend 1\n", line, -5)
            self.check_refused(self.ORDER + "sign 1 1\npatient 1 10kg 0 plain\n", line, -5)
        for line in ("sign 1 2", "sign 1 4"):
            self.check_refused(self.ORDER + "sign 1 2\n", line, -5)
        self.check_refused(self.ORDER + "end 1\n", "sign 1 1", -6)
        self.check_refused(self.ORDER + "end 1\npatient 1 10kg 0 plain\n", "sign 1 1", -6)

    def test_too_much_for_the_weight(self):
        self.check_refused(PEOPLE + "order 1 1 4200001uL x1 catch 1h:1:1mL/h\n", "sign 1 1", -7)
        self.check_refused(PEOPLE + "order 1 1 1L x1 catch 1h:1:910001uL/h\n", "sign 1 1", -7)
        self.check_refused(PEOPLE + "order 1 1 1L x1 catch 1h:1:1mL/h 1s:0:910001uL/h\n", "sign 1 2", -7)
        self.check_refused(self.ORDER + "patient 1 69999g 350 plain\n", "sign 1 1", -7)
        self.check_last(self.ORDER + "patient 1 69999g 350 plain\npatient 1 70000g 350 plain\nsign 1 1\n", 0)


class EndTest(ClinicTest):
    def test_end(self):
        text = PEOPLE + "order 1 1 1L x1 catch 1h:1:1mL/h\n"
        self.check_refused(text, "end 2", -3)
        self.check_written(text, "end 1", 0)
        self.check_last(text + "end 1\nask order 1\n", 0, 1, 1000000, 1, 0, 1, 0, 0, 1, 1)
        self.check_refused(text + "end 1\n", "end 1", -4)


class LotTest(ClinicTest):
    def test_lot(self):
        self.check_written("", "lot 1 line 1 0", 0)
        self.check_last("lot 1 line 1000 3650\nask lot 1\n", 0, 1, 3650, 1000, 1000, 0, 1)
        self.check_last("lot 16 filter 1 0\nask lot 16\n", 0, 0, 0, 1, 1, 0, 1)
        self.check_refused("lot 1 line 1 0\n", "lot 1 filter 5 5", -3)
        self.check_refused("lot 1 line 1 0\nrecall 1\n", "lot 1 line 1 0", -3)

    def test_the_last_day(self):
        day = "tick 600\n" * 144
        text = "lot 1 line 1 0\nlot 2 line 1 1\n" + day
        self.check_last(text[:-9] + "tick 599\nask lot 1\n", 0, 1, 0, 1, 1, 0, 1)
        self.check_last(text + "ask lot 1\n", 0, 1, 0, 1, 1, 0, 0)
        self.check_last(text + "ask lot 2\n", 0, 1, 1, 1, 1, 0, 1)
        self.check_last(text[:-9] + "tick 599\nask now\n", 0, 86399, 0, 0, 0, 0, 0, 30 + 9 * 144)
        self.check_last(text + "ask now\n", 0, 86400, 1, 0, 0, 0, 0, 30 + 9 * 144)


class RecallTest(ClinicTest):
    def test_recall(self):
        self.check_refused(STOCK, "recall 3", -3)
        self.check_written(STOCK, "recall 1", 0)
        self.check_refused(STOCK + "recall 1\n", "recall 1", -4)
        self.check_last(STOCK + "recall 1\nask lot 1\n", 0, 1, 100, 9, 9, 1, 0)

    def test_sessions_ended_ones_too(self):
        self.check_last(TREATING + "recall 1\n", 0, 1)
        self.check_last(TREATING + "recall 2\n", 0, 1)
        self.check_last(SPENT + "recall 2\n", 0, 1)
        self.check_last(LAID + "recall 2\n", 0)

    def test_the_numbers_in_order(self):
        again = ("done 1\ndisinfect 1 1\nrinse 1 12\nclear 1\ntest 1\n%slay 1\nbag 1 5L\nprime 1 20 drain\nreset 1 0\n"
                 "start 1 1\n")
        text = TREATING + again % "lot 3 line 1 1\n" + again % ""
        self.assertEqual([last(text + "recall %d\n" % lot) for lot in (1, 2, 3)], [[0, 1, 3], [0, 1, 2, 3], [0, 2]])


class WaterTest(ClinicTest):
    def test_water(self):
        self.check_written("", "water ok", 0)
        self.check_written("", "water bad", 0)
        self.check_last("tick 5\nwater ok\ntick 7\nask now\n", 0, 12, 0, 1, 5, 1, 0, 23)
        self.check_last("water ok\ntick 5\nwater bad\ntick 7\nask now\n", 0, 12, 0, 2, 5, 0, 0, 33)
        self.check_last("water bad\ntick 5\nwater ok\nask now\n", 0, 5, 0, 1, 5, 1, 0, 26)
        self.check_last("ask now\n", 0, 0, 0, 0, 0, 0, 0, 0)

    def test_good_for_14400_seconds(self):
        hours = "tick 600\n" * 24
        self.check_last("tick 3\nwater ok\n" + hours + "ask now\n", 0, 14403, 0, 1, 3, 1, 0, 232)
        self.check_last("tick 3\nwater ok\n" + hours + "tick 1\nask now\n", 0, 14404, 0, 1, 3, 0, 0, 239)


class SeatTest(ClinicTest):
    TWO = "patient 1 70kg 350 plain\npatient 2 70kg 350 marked\npatient 3 70kg 350 plain\n"

    def test_seat(self):
        for chair in (1, 2, 3):
            self.check_written(self.TWO, "seat 1 %d" % chair, 0)
            self.check_refused(self.TWO, "seat 2 %d" % chair, -6)
        self.check_written(self.TWO, "seat 2 4", 0)
        self.check_refused(self.TWO, "seat 1 4", -6)
        self.assertEqual(told(self.TWO + "seat 1 3\nask patient 1\nask chair 3\n")[-2:],
                         [[0, 70000, 350, 0, 1, 0, 0], [0, 1, 1] + [0] * 14])

    def test_refusals_in_order(self):
        self.check_refused(self.TWO + "seat 1 1\n", "seat 8 1", -3)
        self.check_refused(self.TWO + "seat 1 1\n", "seat 1 1", -4)
        self.check_refused(self.TWO + "seat 1 1\n", "seat 2 1", -4)
        self.check_refused(self.TWO + "seat 1 1\n", "seat 1 2", -5)
        self.check_refused(self.TWO + "seat 1 1\n", "seat 1 4", -5)
        self.check_refused(self.TWO + "seat 2 4\n", "seat 2 1", -5)

    def test_without_power(self):
        self.check_last(self.TWO + "fail 1\nseat 1 1\n", 0)


class UnseatTest(ClinicTest):
    def test_unseat(self):
        self.check_refused("", "unseat 1", -3)
        self.check_refused(TREATING, "unseat 2", -3)
        for text in (CLINIC, LAID, PRIMED, SPENT):
            self.check_written(text, "unseat 1", 0)
            self.check_last(text + "unseat 1\nask patient 1\n", 0, 70000, 350, 0, 0, 0, 0)
        for text in (TREATING, RETURNING, TREATING + "fail 1\n"):
            self.check_refused(text, "unseat 1", -4)
        self.check_last(SPENT + "fail 1\nunseat 1\n", 0)


class TickTest(ClinicTest):
    def test_answer(self):
        self.check_written("", "tick 1", 0, 1, 0, 0, 0, 0, 0, 0, 0, 0)
        self.check_last("tick 600\ntick 600\n", 0, 1200, 0, 0, 0, 0, 0, 0, 0, 0)
        for chair in (1, 2, 3, 4):
            told_latches = [0] * 8
            told_latches[2 * chair - 2] = 4
            leak = "leak %d 1000\n" % chair
            self.check_last(leak * 3 + "tick 1\n", 0, 1, *told_latches)

    def test_latches_and_counted(self):
        self.check_last(JOINED + "take 1 on\ngo 1\ntick 8\n", 0, 8, 0, 2000, 0, 0, 0, 0, 0, 0)

    def test_the_last_second(self):
        for clock, answer in ((999999990, 0), (999999991, -3)):
            clinic = Clinic()
            clinic.clock = clock
            told_numbers = do(clinic, "tick 10")
            self.assertEqual(told_numbers[0], answer)
            self.assertEqual(clinic.clock, clock if answer < 0 else 1000000000)
