"""Acts that look after a machine and its guard, and what befalls them."""

from clinicdesk.machine import Machine
from clinicdesk.upkeep import do_upkeep_act
from helper import (CLINIC, JOINED, LAID, PHASES, PRIMED, RETURNING, TREATING, ClinicTest, asked, last, told)

LEAKS = "leak 1 1000\nleak 1 1000\nleak 1 1000\n"
UNCENTRED = TREATING + "join 1\ngo 1\ntick 10\n"


class EverywhereTest(ClinicTest):
    def test_in_every_phase(self):
        for text in PHASES:
            for line in ("bag 1 1L", "fault 1 A 5", "fault 1 B true", "slip 1 vein on", "slip 1 artery off", "arm 1 5",
                         "disarm 1", "fail 1"):
                self.check_written(text, line, 0)


class BagTest(ClinicTest):
    def test_a_new_bag(self):
        self.assertEqual(asked("bag 1 0uL\n", "guard")["bag"], 0)
        self.assertEqual(asked("bag 1 5L\n", "guard")["bag"], 5000000)
        self.assertEqual(asked("bag 1 5L\nbag 1 3uL\n", "guard")["bag"], 3)
        self.assertEqual(asked("bag 2 5L\n", "guard")["bag"], 0)
        self.assertEqual(asked("bag 1 5L\n", "plant")["bag_water"], 0)


class ChannelTest(ClinicTest):
    def test_check(self):
        self.check_written("", "check 1", 0)
        self.check_written("fault 1 A 0\n", "check 1", 1)
        self.check_written("fault 1 B 1000\n", "check 1", 2)
        self.check_written("fault 1 A 1\nfault 1 B 1\n", "check 1", 3)
        self.check_written("fault 1 A 1\nfault 1 B 1\nfault 1 A true\n", "check 1", 2)
        self.check_written("fault 1 A 1\nfault 1 A true\n", "check 1", 0)
        self.check_written("fault 2 A 1\n", "check 1", 0)

    def test_check_lowers_latch_1(self):
        text = PRIMED + "fault 1 A 51\nprime 1 2 drain\n"
        guard = asked(text, "guard")
        self.assertEqual((guard["latches"], guard["unlike"]), (2, 2))
        self.check_refused(text, "reset 1 1", -4)
        self.check_last(text + "check 1\n", 1)
        guard = asked(text + "check 1\n", "guard")
        self.assertEqual((guard["latches"], guard["unlike"]), (2, 2))
        text += "fault 1 A true\n"
        self.check_refused(text, "reset 1 1", -4)
        self.check_last(text + LEAKS + "check 1\n", 0)
        guard = asked(text + LEAKS + "check 1\n", "guard")
        self.assertEqual((guard["latches"], guard["unlike"]), (4, 0))
        self.check_refused(text + "check 1\n", "reset 1 1", -3)

    def test_check_makes_unlike_0_without_a_latch(self):
        text = PRIMED + "fault 1 B 51\nprime 1 1 drain\n"
        self.assertEqual(asked(text, "guard")["unlike"], 1)
        self.assertEqual(asked(text + "check 1\n", "guard")["unlike"], 1)
        self.assertEqual(asked(text + "fault 1 B true\ncheck 1\n", "guard")["unlike"], 0)


class PressTest(ClinicTest):
    def test_not_joined(self):
        for text in ("", PRIMED, TREATING, RETURNING):
            self.check_written(text, "press 1 -1000 1000", 0)
        self.check_last(LEAKS + "press 1 500 500\n", 4)

    def test_joined_without_a_centre(self):
        text = TREATING + "join 1\n"
        for a, v, latches in ((-300, 10, 0), (100, 400, 0), (-301, 10, 8), (101, 10, 8), (-300, 9, 16), (0, 401, 16),
                              (-301, 401, 24), (1000, -1000, 24), (0, 0, 16)):
            self.check_written(text, "press 1 %d %d" % (a, v), latches)
            self.check_last(RETURNING + "join 1\npress 1 %d %d\n" % (a, v), latches)

    def test_joined_with_a_centre(self):
        for a, v, latches in ((60, 160, 0), (-60, 40, 0), (61, 100, 8), (-61, 100, 8), (0, 161, 16), (0, 39, 16),
                              (61, 39, 24)):
            self.check_last(JOINED + "press 1 %d %d\n" % (a, v), latches)

    def test_a_good_press_lowers_nothing(self):
        self.check_last(JOINED + "press 1 61 100\npress 1 0 100\n", 8)

    def test_these_are_the_last_pressures(self):
        text = TREATING + "join 1\npress 1 0 100\ncentre 1\npress 1 50 150\ncentre 1\n"
        self.check_last(text + "press 1 110 210\n", 8)
        self.check_last(text + "press 1 100 210\n", 0)
        self.check_last(text + "press 1 -10 90\n", 0)
        self.check_last(text + "press 1 -11 89\n", 24)

    def test_edges_stay_bad_with_a_centre(self):
        text = TREATING + "join 1\npress 1 90 20\ncentre 1\n"
        self.check_last(text + "press 1 100 10\n", 0)
        self.check_last(text + "press 1 101 9\n", 24)


class CentreTest(ClinicTest):
    def test_refusals(self):
        self.check_refused("", "centre 1", -3)
        for a, v in ((-301, 100), (101, 100), (0, 9), (0, 401)):
            self.check_refused("press 1 %d %d\n" % (a, v), "centre 1", -4)
        for a, v in ((-300, 10), (100, 400)):
            self.check_written("press 1 %d %d\n" % (a, v), "centre 1", 0)

    def test_far_from_the_old_centre(self):
        self.check_last(JOINED + "press 1 100 300\ncentre 1\n", 0)

    def test_uncentred_is_0(self):
        text = TREATING + "join 1\ngo 1\ntick 9\npress 1 0 100\n"
        self.assertEqual(asked(text, "guard")["uncentred"], 9)
        self.assertEqual(asked(text + "centre 1\n", "guard")["uncentred"], 0)
        self.check_last(text + "centre 1\ntick 50\n", 0, 59, 0, 0, 0, 0, 0, 0, 0, 0)


class LeakTest(ClinicTest):
    def test_leak(self):
        self.assertEqual(told("leak 1 1000\nleak 1 1000000\nleak 1 1000\nleak 1 1000\nleak 1 999\nleak 1 0\n"),
                         [[0], [0], [4], [4], [4], [4]])
        self.assertEqual([asked("leak 1 1000\n" * times, "guard")["streak"] for times in range(6)], [0, 1, 2, 3, 3, 3])
        self.assertEqual(asked(LEAKS + "leak 1 999\n", "guard")["streak"], 0)
        self.assertEqual(told("leak 1 1000\nleak 1 1000\nleak 1 999\nleak 1 1000\nleak 1 1000\n"), [[0]] * 5)
        self.check_written("leak 1 1000\nleak 1 1000\n", "leak 1 1000", 4)


class VentTest(ClinicTest):
    def test_vent(self):
        self.check_written("", "vent 1", 0, 0)
        self.check_written(PRIMED, "vent 1", 0, 8000)
        self.check_last(PRIMED + "vent 1\nvent 1\n", 0, 0)
        self.assertEqual(asked(PRIMED + "vent 1\n", "guard")["trap"], 0)
        self.assertEqual(asked(PRIMED + "vent 1\nvent 1\n", "plant")["vented"], 8000)


class ResetTest(ClinicTest):
    def test_a_latch_that_is_not_up(self):
        for latch in range(8):
            self.check_refused(JOINED, "reset 1 %d" % latch, -3)
            self.check_refused(JOINED + "take 1 on\n", "reset 1 %d" % latch, -3)

    def test_latch_0(self):
        text = LAID + "bag 1 5L\nprime 1 10 drain\n"
        self.check_refused(text, "reset 1 0", -4)
        self.check_written(text + "prime 1 1 drain\n", "reset 1 0", 0)
        self.check_last(text + "prime 1 1 drain\n" + LEAKS + "reset 1 0\n", 4)
        self.check_refused(text + "prime 1 1 drain\nreset 1 0\n", "reset 1 0", -3)

    def test_latch_2(self):
        self.check_refused(LEAKS, "reset 1 2", -4)
        self.check_written(LEAKS + "leak 1 0\n", "reset 1 2", 0)
        self.check_refused(LEAKS + "leak 1 0\nleak 1 1000\n", "reset 1 2", -4)

    def test_latches_3_and_4(self):
        text = JOINED + "press 1 61 161\n"
        self.check_refused(text, "reset 1 3", -4)
        self.check_refused(text, "reset 1 4", -4)
        self.check_last(text + "press 1 60 161\nreset 1 3\n", 16)
        self.check_refused(text + "press 1 60 161\n", "reset 1 4", -4)
        self.check_last(text + "press 1 61 160\nreset 1 4\n", 8)
        self.check_refused(text + "press 1 61 160\n", "reset 1 3", -4)

    def test_latches_3_and_4_by_the_centre_as_it_is_now(self):
        text = JOINED + "press 1 61 161\ncentre 1\n"
        self.assertEqual(told(text + "reset 1 3\nreset 1 4\n")[-2:], [[16], [0]])
        text = JOINED + "press 1 61 161\npress 1 0 100\n"
        self.assertEqual(told(text + "reset 1 4\nreset 1 3\n")[-2:], [[8], [0]])

    def test_latches_3_and_4_without_last_pressures(self):
        text = JOINED + "press 1 500 500\nleave 1\n"
        self.assertEqual(told(text + "reset 1 3\nreset 1 4\n")[-2:], [[16], [0]])
        text += "press 1 500 500\n"
        self.check_refused(text, "reset 1 3", -4)
        self.check_refused(text, "reset 1 4", -4)

    def test_latch_5(self):
        text = TREATING.replace("70kg 350", "70kg 701") + "join 1\npress 1 0 100\ncentre 1\ngo 1\ntick 9\n"
        self.assertEqual(asked(text, "guard")["latches"], 32)
        self.check_refused(text + "take 1 on\n", "reset 1 5", -4)
        self.check_written(text, "reset 1 5", 0)
        self.check_last(text + "take 1 on\ntake 1 off\nreset 1 5\n", 0)
        self.check_refused(JOINED + "take 1 on\n", "reset 1 5", -3)

    def test_latch_6(self):
        self.check_last(UNCENTRED, 0, 10, 64, 0, 0, 0, 0, 0, 0, 0)
        self.check_refused(UNCENTRED, "reset 1 6", -4)
        self.check_written(UNCENTRED + "press 1 0 100\ncentre 1\n", "reset 1 6", 0)
        self.check_last(UNCENTRED + "leave 1\nreset 1 6\n", 0)
        self.assertEqual(asked(UNCENTRED + "leave 1\nreset 1 6\n", "guard")["uncentred"], 0)
        self.assertEqual(asked(UNCENTRED, "guard")["uncentred"], 10)

    def test_latch_6_makes_uncentred_0(self):
        machine = Machine()
        machine.guard.latches = 68
        machine.guard.uncentred = 5
        self.assertEqual(do_upkeep_act(machine, "reset", [6]), [4])
        self.assertEqual(machine.guard.uncentred, 0)

    def test_other_latches_leave_uncentred_as_it_is(self):
        text = TREATING + "join 1\ngo 1\ntick 5\n" + LEAKS + "leak 1 0\nreset 1 2\n"
        self.check_last(text, 0)
        self.assertEqual(asked(text, "guard")["uncentred"], 5)

    def test_latch_7(self):
        text = TREATING + "join 1\ngo 1\ntick 2\nhalt 1\nleave 1\ntick 121\n"
        self.check_last(text, 0, 123, 128, 0, 0, 0, 0, 0, 0, 0)
        self.check_refused(text, "reset 1 7", -4)
        self.check_refused(text + "check 1\n", "reset 1 7", -4)

    def test_latch_1(self):
        self.check_refused(PRIMED + "fault 1 A 60\nprime 1 2 drain\n", "reset 1 1", -4)


class PowerTest(ClinicTest):
    def test_arm_and_disarm(self):
        self.check_last("arm 1 0\ndisarm 1\ntest 1\n", 0, 0)
        self.check_last("arm 1 0\narm 1 5\ntest 1\n", 0, 0)
        self.check_last("arm 1 5\narm 1 0\ntest 1\n", 1)
        self.check_last("arm 2 0\ntest 1\n", 0, 0)

    def test_fail(self):
        text = JOINED + "take 1 on\ngo 1\ntick 3\nleak 1 1000\nfault 1 A 60\ntick 1\narm 1 9\n"
        before = asked(text, "guard")
        self.assertEqual(before, {"latches": 0, "clean": 5, "readings": 4, "readings_sum": 60, "unlike": 1,
                                  "streak": 1, "uncentred": 0, "still": 0, "trap": 8000, "source": 2, "h": 350,
                                  "bag": 4980000, "sink": 1})
        behind = asked(text + "fail 1\n", "guard")
        self.assertEqual(behind, dict(before, clean=0, readings=0, readings_sum=0, unlike=0, streak=0, sink=2))
        chair = asked(text, "chair")
        self.assertEqual(asked(text + "fail 1\n", "chair"), dict(chair, power=0, going=0, joined=0, taking=0))
        self.assertEqual(asked(text + "fail 1\n", "plant"), asked(text, "plant"))
        self.check_refused(text + "fail 1\nback 1\n", "centre 1", -3)

    def test_nothing_is_armed_behind_a_failing(self):
        self.check_last("arm 1 1\nfail 1\nback 1\ntest 1\n", 0, 0)

    def test_fail_makes_good_and_uncentred_0(self):
        self.assertEqual(asked("disinfect 1 1\nrinse 1 12\nfail 1\n", "plant")["good"], 0)
        self.assertEqual(asked(TREATING + "join 1\ngo 1\ntick 5\nfail 1\n", "guard")["uncentred"], 0)

    def test_latches_go_down_but_latch_7(self):
        text = TREATING + "join 1\ngo 1\ntick 10\npress 1 500 500\ntick 121\n" + LEAKS
        self.check_last(text + "tick 1\n", 0, 132, 4 + 8 + 16 + 64 + 128, 0, 0, 0, 0, 0, 0, 0)
        self.check_last(text + "fail 1\nback 1\n", 0, 3, 128, 0)
        self.check_last(LEAKS + "fail 1\nback 1\n", 0, 0, 0, 0)

    def test_back(self):
        self.check_refused("", "back 1", -3)
        self.check_refused("fail 1\nback 1\n", "back 1", -3)
        self.check_refused("fail 2\n", "back 1", -3)
        self.check_written("fail 1\n", "back 1", 0, 0, 0, 0)
        for phase, text in enumerate(PHASES):
            self.check_last(text + "fail 1\nback 1\n", 0, phase, 0, 0)
        text = JOINED + "take 1 on\ngo 1\ntick 4\nfail 1\n"
        self.check_written(text, "back 1", 0, 3, 0, 1000)
        self.assertEqual(asked(text + "back 1\n", "chair")["power"], 1)
        self.check_last(text + "back 1\nfail 1\n", 0)

    def test_back_and_still(self):
        blood = JOINED + "go 1\ntick 4\nfail 1\ntick 50\n"
        self.assertEqual(asked(blood, "guard")["still"], 50)
        self.assertEqual(asked(blood + "back 1\n", "guard")["still"], 50)
        clean = CLINIC + "fail 1\ntick 50\n"
        self.assertEqual(asked(clean + "back 1\n", "guard")["still"], 0)


    def test_back_makes_still_0_where_there_is_no_red(self):
        for cell, still in (((0, 1000, 0), 0), ((1, 999, 0), 50)):
            machine = Machine()
            machine.power = False
            machine.cells[9] = cell
            machine.guard.still = 50
            self.assertEqual(do_upkeep_act(machine, "back", []), [0, 0, 0, 0])
            self.assertEqual(machine.guard.still, still)


class SlipTest(ClinicTest):
    def test_each_needle(self):
        for needle, name in (("artery", "drawn_red"), ("vein", "given_red")):
            self.assertEqual(asked(JOINED + "go 1\ntick 20\n", "plant")[name] > 0, True)
            slipped = JOINED + "slip 1 %s on\ngo 1\ntick 8\n" % needle
            self.assertEqual(asked(slipped, "plant")[name], 0)
            mended = JOINED + "slip 1 %s on\nslip 1 %s off\ngo 1\ntick 20\n" % (needle, needle)
            self.assertEqual(asked(mended, "plant"), asked(JOINED + "go 1\ntick 20\n", "plant"))
        self.assertEqual(last(JOINED + "slip 1 vein on\nslip 1 artery off\ngo 1\ntick 1\nask plant 1\n")[9:12],
                         [0, 1000, 0])
