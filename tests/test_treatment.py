"""Acts of a treatment: their refusals in the order told, what they do, and their answers."""

from helper import (CLINIC, DISINFECTING, JOINED, LAID, ORDER, PEOPLE, PHASES, PRIMED, RETURNING, RINSED, RINSING,
                    SPENT, STOCK, TESTED, TREATING, ClinicTest, asked, clinic_behind, do, last, told)

AGAIN = ("done 1\ndisinfect 1 1\nrinse 1 12\nclear 1\ntest 1\nlay 1\nbag 1 5L\nprime 1 20 drain\nreset 1 0\n"
         "start 1 %d\n")


class PhaseTest(ClinicTest):
    def check_phases(self, line, allowed, refused=-3):
        for phase, text in enumerate(PHASES):
            self.assertEqual(asked(text, "chair")["phase"], phase)
            if phase not in allowed:
                self.check_refused(text, line, refused)
            else:
                self.assertNotEqual(last(text + line + "\n"), [refused], (phase, line))


class TestTest(PhaseTest):
    def test_phases(self):
        self.check_phases("test 1", (0,))

    def test_true_channels(self):
        self.check_written("", "test 1", 0, 0)
        self.assertEqual(asked("test 3\n", "chair", 3)["phase"], 1)

    def test_stuck_channels(self):
        for faults, code in (("fault 1 A 0\n", 1), ("fault 1 B 0\n", 2), ("fault 1 A 0\nfault 1 B 9\n", 3)):
            self.check_written(faults, "test 1", 0, code)
            self.assertEqual(asked(faults + "test 1\n", "chair")["phase"], 0)
            self.check_last(faults + "arm 1 0\ntest 1\n", 0, code)
        self.check_last("fault 1 A 0\nfault 1 A true\ntest 1\n", 0, 0)


class LayTest(PhaseTest):
    def test_phases(self):
        self.check_phases("lay 1", (1,))

    def test_answer(self):
        self.check_written(TESTED, "lay 1", 0, 1, 2)
        chair = asked(LAID, "chair")
        self.assertEqual((chair["phase"], chair["line_lot"], chair["filter_lot"]), (2, 1, 2))
        self.check_last(LAID + "ask lot 1\n", 0, 1, 100, 9, 8, 0, 1)
        self.check_last(LAID + "ask lot 2\n", 0, 0, 100, 9, 8, 0, 1)

    def test_no_lots(self):
        self.check_refused("test 1\n", "lay 1", -4)
        self.check_refused("test 1\nlot 1 filter 1 1\n", "lay 1", -4)
        self.check_refused("test 1\nlot 1 line 1 1\n", "lay 1", -5)
        self.check_refused("test 1\nlot 1 line 1 1\nlot 2 filter 1 1\nrecall 1\n", "lay 1", -4)
        self.check_refused("test 1\nlot 1 line 1 1\nlot 2 filter 1 1\nrecall 2\n", "lay 1", -5)

    def test_lots_with_none_left(self):
        text = "test 1\ntest 2\nlot 1 line %d 1\nlot 2 filter %d 1\nlay 1\n"
        self.check_refused(text % (1, 2), "lay 2", -4)
        self.check_refused(text % (1, 1), "lay 2", -4)
        self.check_refused(text % (2, 1), "lay 2", -5)
        self.check_last(text % (2, 2) + "lay 2\n", 0, 1, 2)

    def test_lots_beyond_their_day(self):
        day = "tick 600\n" * 144
        self.check_refused("test 1\nlot 1 line 1 0\nlot 2 filter 1 1\n" + day, "lay 1", -4)
        self.check_refused("test 1\nlot 1 line 1 1\nlot 2 filter 1 0\n" + day, "lay 1", -5)
        self.check_last("test 1\nlot 1 line 1 1\nlot 2 filter 1 1\n" + day + "lay 1\n", 0, 1, 2)

    def test_which_lots(self):
        lots = "lot 9 line 9 5\nlot 4 line 9 3\nlot 3 line 1 3\nlot 2 line 9 4\nlot 1 filter 9 9\n"
        lots += "lot 16 filter 9 2\nlot 15 filter 1 1\nlot 14 filter 9 2\n"
        tests = "test 1\ntest 2\ntest 3\ntest 4\n"
        self.assertEqual(told(tests + lots + "lay 1\nlay 2\nrecall 4\nlay 3\nrecall 14\nlay 4\n")[-6:],
                         [[0, 3, 15], [0, 4, 14], [0], [0, 2, 14], [0], [0, 2, 16]])

    def test_a_million_lines(self):
        clinic = clinic_behind(TESTED)
        machine = clinic.chairs[0].machine
        machine.totals.lines = 1000000
        self.assertEqual(do(clinic, "lay 1"), [-6])
        self.assertEqual(clinic.lots[1].left, 9)
        self.assertEqual(clinic.chairs[0].line_lot, 0)
        clinic.lots[2].left = 0
        self.assertEqual(do(clinic, "lay 1"), [-5])
        clinic.lots[2].left = 1
        machine.totals.lines = 999999
        self.assertEqual(do(clinic, "lay 1"), [0, 1, 2])

    def test_a_new_line(self):
        text = (TREATING + "join 1\ngo 1\ntick 9\nleave 1\nleak 1 1000\nfault 1 A 300\npress 1 0 200\ndone 1\n"
                "tick 130\ndisinfect 1 1\nrinse 1 12\nclear 1\nfault 1 A true\ntest 1\n")
        before = asked(text, "guard")
        plant = asked(text, "plant")
        self.assertEqual(before, {"latches": 128, "clean": 5, "readings": 4, "readings_sum": 0, "unlike": 0,
                                  "streak": 1, "uncentred": 0, "still": 130, "trap": 8000, "source": 2, "h": 350,
                                  "bag": 4980000, "sink": 2})
        guard = asked(text + "lay 1\n", "guard")
        self.assertEqual(guard, {"latches": 0, "clean": 0, "readings": 0, "readings_sum": 0, "unlike": 0,
                                 "streak": 0, "uncentred": 0, "still": 0, "trap": 0, "source": 2, "h": 350,
                                 "bag": 4980000, "sink": 0})
        behind = asked(text + "lay 1\n", "plant")
        changed = {name: behind[name] - plant[name] for name in plant if behind[name] != plant[name]}
        self.assertEqual(changed, {"air_in": 16000, "thrown_red": 9 * 350, "thrown_water": 7000 + 9 * 650,
                                   "vented": 8000, "lines": 1})

    def test_pressures_are_forgotten(self):
        self.check_refused(TESTED + "press 1 0 100\ncentre 1\nlay 1\n", "centre 1", -3)

    def test_a_new_machine_s_first_line_is_thrown_away(self):
        plant = asked(LAID, "plant")
        self.assertEqual((plant["air_in"], plant["thrown_air"], plant["lines"], plant["vented"]), (32000, 16000, 2, 0))


class PrimeTest(PhaseTest):
    def test_phases(self):
        self.check_phases("prime 1 1 drain", (2,))

    def test_drain(self):
        text = LAID + "bag 1 5L\n"
        self.assertEqual([last(text + "prime 1 %d drain\n" % moves) for moves in (1, 6, 7, 10, 11, 12, 100)],
                         [[0, 1, 0], [0, 1, 0], [0, 1, 1], [0, 1, 4], [0, 1, 5], [0, 1, 5], [0, 1, 5]])
        guard = asked(text + "prime 1 20 drain\n", "guard")
        self.assertEqual((guard["bag"], guard["sink"], guard["source"], guard["trap"]), (4980000, 0, 1, 8000))
        plant = asked(text + "prime 1 20 drain\n", "plant")
        self.assertEqual((plant["drained_water"], plant["drained_air"], plant["bag_water"], plant["moves"]),
                         (4000, 8000, 20000, 20))

    def test_round(self):
        text = LAID + "bag 1 5L\nprime 1 20 drain\n"
        guard = asked(text + "prime 1 30 round\n", "guard")
        self.assertEqual((guard["bag"], guard["sink"], guard["source"]), (4980000, 2, 1))
        self.assertEqual(asked(text + "prime 1 30 round\nprime 1 1 drain\n", "guard")["sink"], 0)

    def test_it_aims(self):
        text = PRIMED + "press 1 0 100\ncentre 1\n"
        self.check_last(text + "prime 1 1 drain\ncentre 1\n", 0)
        self.check_refused(text + "prime 1 1 round\n", "centre 1", -3)

    def test_whatever_is_latched(self):
        text = PRIMED + "leak 1 1000\nleak 1 1000\nleak 1 1000\n"
        self.check_last(text + "prime 1 3 drain\n", 0, 4, 5)

    def test_one_move_and_many_are_the_same(self):
        text = LAID + "bag 1 12345uL\nfault 1 A 60\n"
        for kind in ("guard", "plant", "chair"):
            self.assertEqual(asked(text + "prime 1 30 drain\n", kind), asked(text + "prime 1 1 drain\n" * 30, kind))

    def test_the_last_move(self):
        for moves, answer in ((1000000000 - 7, 0), (1000000000 - 6, -4)):
            clinic = clinic_behind(LAID)
            machine = clinic.chairs[0].machine
            machine.totals.moves = moves
            self.assertEqual(do(clinic, "prime 1 7 round")[0], answer)
            self.assertEqual(machine.totals.moves, moves if answer < 0 else 1000000000)
            self.assertEqual(machine.sink, 0 if answer < 0 else 2)


class StartTest(PhaseTest):
    def test_phases(self):
        self.check_phases("start 1 1", (2,))

    def test_answer(self):
        self.check_written(PRIMED, "start 1 1", 0, 1)
        self.assertEqual(asked(PRIMED + "start 1 1\n", "chair"), {
            "zero": 0, "patient": 1, "power": 1, "phase": 3, "going": 0, "joined": 0, "taking": 0, "allowed": 1,
            "latches": 0, "session": 1, "line_lot": 1, "filter_lot": 2, "goal": 2000000, "t": 0, "counted": 0,
            "strokes": 0, "took": 0})
        guard = asked(TREATING, "guard")
        self.assertEqual((guard["source"], guard["h"], guard["sink"], guard["clean"]), (2, 350, 2, 5))
        self.check_last(PRIMED + "tick 7\nstart 1 1\nask session 1\n", 0, 1, 1, 1, 7, 1, 2, 0)
        self.check_last(TREATING + "ask order 1\n", 0, 1, 2000000, 9, 1, 1, 1, 2, 0, 1)

    def test_it_aims(self):
        text = PRIMED + "press 1 0 100\n"
        self.check_refused(text + "start 1 1\n", "centre 1", -3)
        self.check_last(PRIMED + "prime 1 1 round\npress 1 0 100\nstart 1 1\ncentre 1\n", 0)

    def test_what_the_session_took_begins_anew(self):
        text = JOINED + "take 1 on\ngo 1\ntick 8\nleave 1\n"
        self.assertEqual(asked(text, "chair")["took"], 2000)
        self.assertEqual(asked(text + (AGAIN % 1).replace("start 1 1\n", ""), "chair")["took"], 2000)
        chair = asked(text + AGAIN % 1, "chair")
        self.assertEqual((chair["took"], chair["counted"], chair["t"], chair["strokes"]), (0, 0, 0, 0))
        self.assertEqual(asked(text + AGAIN % 1, "plant")["taken"], 2000)
        self.check_last(text + AGAIN % 1 + "ask session 1\n", 0, 1, 1, 1, 0, 1, 2, 2000)

    def test_nobody_sits_there(self):
        self.check_refused(PRIMED + "unseat 1\n", "start 1 1", -4)
        self.check_refused(PRIMED + "unseat 1\n", "start 1 9", -4)

    def test_orders(self):
        self.check_refused(PRIMED, "start 1 2", -5)
        self.check_refused(PRIMED + "end 1\n", "start 1 1", -5)
        other = "patient 2 70kg 350 plain\norder 2 2 1L x1 catch 1h:1:1mL/h\nsign 2 1\nsign 2 2\n"
        self.check_refused(PRIMED + other, "start 1 2", -5)
        self.check_last(PRIMED + other + "unseat 1\nseat 2 1\nstart 1 2\n", 0, 1)
        order = "order 2 1 1L x1 catch 1h:1:1mL/h\n"
        self.check_refused(PRIMED + order, "start 1 2", -5)
        self.check_refused(PRIMED + order + "sign 2 1\n", "start 1 2", -5)
        self.check_refused(PRIMED + order + "sign 2 2\n", "start 1 2", -5)
        self.check_last(PRIMED + order + "sign 2 2\nsign 2 1\nstart 1 2\n", 0, 1)
        self.check_refused(PRIMED + "end 1\nwater bad\n", "start 1 1", -5)

    def test_as_many_sessions_as_it_is_good_for(self):
        order = "order 2 1 1L x1 catch 1h:1:1mL/h\nsign 2 1\nsign 2 2\n"
        text = PRIMED + order + "start 1 2\n" + AGAIN % 2
        self.check_last(text, -6)
        self.check_refused(text + "water bad\n", "start 1 2", -6)
        self.check_last(text + "start 1 1\n", 0, 2)
        text = text.replace("x1 catch", "x2 catch")
        self.check_last(text, 0, 2)
        self.check_last(text + AGAIN % 2, -6)

    def test_water(self):
        self.check_refused(PRIMED + "water bad\n", "start 1 1", -7)
        self.check_refused(PRIMED + "water bad\nrecall 1\n", "start 1 1", -7)
        self.check_refused(PRIMED + "tick 600\n" * 24 + "tick 1\n", "start 1 1", -7)
        self.check_last(PRIMED + "tick 600\n" * 24 + "start 1 1\n", 0, 1)
        self.check_refused(PRIMED.replace("water ok\n", ""), "start 1 1", -7)

    def test_parts(self):
        self.check_refused(PRIMED + "recall 1\n", "start 1 1", -8)
        self.check_refused(PRIMED + "recall 2\n", "start 1 1", -8)
        self.check_refused(PRIMED + "recall 2\nleak 1 1000\nleak 1 1000\nleak 1 1000\n", "start 1 1", -8)
        text = PRIMED.replace("lot 1 line 9 100", "lot 1 line 1 0").replace("lot 2 filter 9 100", "lot 2 filter 1 1")
        self.check_last(text + "start 1 1\n", 0, 1)
        self.check_refused(text + "tick 600\n" * 144 + "water ok\n", "start 1 1", -8)
        text = PRIMED.replace("lot 1 line 9 100", "lot 1 line 1 1").replace("lot 2 filter 9 100", "lot 2 filter 1 0")
        self.check_refused(text + "tick 600\n" * 144 + "water ok\n", "start 1 1", -8)
        clinic = clinic_behind(PRIMED)
        clinic.chairs[0].line_lot = 0
        clinic.chairs[0].filter_lot = 0
        self.assertEqual(do(clinic, "start 1 1"), [-8])

    def test_64_sessions(self):
        text = CLINIC.replace("x9 ", "x99 ").replace("line 9", "line 99").replace("filter 9", "filter 99")
        day = ("test 1\nlay 1\nbag 1 1L\nprime 1 11 drain\nreset 1 0\nstart 1 1\ndone 1\ndisinfect 1 1\nrinse 1 12\n"
               "clear 1\n")
        starts = told(text + day * 64)[len(told(text)) + 5::10]
        self.assertEqual(starts, [[0, number] for number in range(1, 65)])
        behind = text + day * 64
        self.check_last(behind + "ask session 64\n", 0, 1, 1, 1, 0, 1, 2, 0)
        again = behind + "test 1\nlay 1\nbag 1 1L\nprime 1 11 drain\n"
        self.check_refused(again + "reset 1 0\n", "start 1 1", -9)
        self.check_refused(again, "start 1 1", -9)

    def test_the_guard(self):
        leaks = "leak 1 1000\nleak 1 1000\nleak 1 1000\n"
        self.check_refused(PRIMED + leaks, "start 1 1", -10)
        text = LAID + "bag 1 5L\nprime 1 10 drain\n"
        self.check_refused(text, "start 1 1", -10)
        self.check_refused(LAID, "start 1 1", -11)
        text = LAID + "bag 1 5L\n"
        self.check_refused(text, "start 1 1", -11)
        self.check_refused(PRIMED + "fail 1\nback 1\nprime 1 4 round\n", "start 1 1", -11)
        self.check_last(PRIMED + "fail 1\nback 1\nprime 1 5 round\nstart 1 1\n", 0, 1)

    def test_too_much_for_the_weight_as_it_is_now(self):
        lighter = "unseat 1\npatient 1 %dg 350 plain\nseat 1 1\n"
        self.check_refused(PRIMED + lighter % 69230, "start 1 1", -12)
        self.check_last(PRIMED + lighter % 69231 + "start 1 1\n", 0, 1)
        self.check_refused(PRIMED + lighter % 69230 + "fail 1\nback 1\n", "start 1 1", -11)
        small = PRIMED.replace("900mL/h", "1mL/h")
        self.check_refused(small + lighter % 33333, "start 1 1", -12)
        self.check_last(small + lighter % 33334 + "start 1 1\n", 0, 1)

    def test_h_is_the_patient_s_as_it_is_now(self):
        self.assertEqual(asked(PRIMED + "unseat 1\npatient 1 70kg 420 plain\nseat 1 1\nstart 1 1\n", "guard")["h"], 420)


class JoinTest(PhaseTest):
    def test_phases(self):
        self.check_phases("join 1", (3, 4))

    def test_answer(self):
        for text in (TREATING, RETURNING):
            self.check_written(text, "join 1", 0)
            self.assertEqual(asked(text + "join 1\n", "guard")["sink"], 1)
            self.assertEqual(asked(text + "join 1\n", "chair")["joined"], 1)

    def test_refusals_in_order(self):
        leaks = "leak 1 1000\nleak 1 1000\nleak 1 1000\n"
        self.check_refused(JOINED, "join 1", -4)
        self.check_refused(JOINED + leaks, "join 1", -4)
        self.check_refused(TREATING + leaks, "join 1", -5)
        self.check_refused(TREATING + "fail 1\nback 1\n", "join 1", -6)
        self.check_refused(TREATING + "fail 1\nback 1\n" + leaks, "join 1", -5)
        unsure = TREATING + "fail 1\nback 1\ngo 1\n"
        self.check_refused(unsure + "tick 4\n", "join 1", -6)
        self.check_last(unsure + "tick 5\njoin 1\n", 0)

    def test_it_aims_and_the_last_airs_are_none(self):
        self.check_refused(TREATING + "press 1 0 100\njoin 1\n", "centre 1", -3)
        text = JOINED + "go 1\ntick 5\nleave 1\n"
        self.check_last(text + "ask ledger 1\n", 0, 0, 0, 3, 0)
        self.check_last(text + "join 1\nask ledger 1\n", 0, 0, 0, 0, 0)


class LeaveTest(ClinicTest):
    def test_leave(self):
        for text in PHASES:
            self.check_refused(text, "leave 1", -3)
        self.check_written(JOINED, "leave 1", 0)
        self.assertEqual(asked(JOINED + "leave 1\n", "guard")["sink"], 2)
        self.check_refused(JOINED + "leave 1\n", "leave 1", -3)
        self.check_refused(JOINED + "leave 1\n", "centre 1", -3)


class TakeTest(PhaseTest):
    def test_take(self):
        for line in ("take 1 on", "take 1 off"):
            self.check_phases(line, (3,))
            self.check_written(TREATING, line, 0)
        self.assertEqual(asked(TREATING + "take 1 on\n", "chair")["taking"], 1)
        self.assertEqual(asked(TREATING + "take 1 on\ntake 1 on\n", "chair")["taking"], 1)
        self.assertEqual(asked(TREATING + "take 1 on\ntake 1 off\n", "chair")["taking"], 0)
        self.check_last(TREATING + "water bad\ntake 1 on\n", 0)


class GoHaltTest(PhaseTest):
    def test_go(self):
        self.check_phases("go 1", (3, 4))
        for text in (TREATING, RETURNING, JOINED, TREATING + "go 1\n"):
            self.check_written(text, "go 1", 0)
            self.assertEqual(asked(text + "go 1\n", "chair")["going"], 1)

    def test_halt(self):
        for text in PHASES:
            self.check_written(text, "halt 1", 0)
        self.assertEqual(asked(TREATING + "go 1\nhalt 1\n", "chair")["going"], 0)


class FinishTest(PhaseTest):
    def test_phases(self):
        self.check_phases("finish 1", (3,))

    def test_answer(self):
        self.check_written(TREATING, "finish 1", 0, 2000000, 0, 0, 0)
        text = JOINED + "take 1 on\ngo 1\ntick 7\n"
        self.check_written(text, "finish 1", 0, 2000000, 1750, 175, 7)
        self.assertEqual(asked(text + "finish 1\n", "chair"), {
            "zero": 0, "patient": 1, "power": 1, "phase": 4, "going": 1, "joined": 1, "taking": 0, "allowed": 1,
            "latches": 0, "session": 1, "line_lot": 1, "filter_lot": 2, "goal": 2000000, "t": 7, "counted": 1750,
            "strokes": 175, "took": 1750})
        guard = asked(text + "finish 1\n", "guard")
        self.assertEqual((guard["source"], guard["sink"]), (1, 1))

    def test_the_record_is_off(self):
        text = JOINED + "take 1 on\ngo 1\ntick 7\nfinish 1\ntick 9\n"
        self.check_last(text, 0, 16, 0, 1750, 0, 0, 0, 0, 0, 0)
        clinic = clinic_behind(JOINED + "take 1 on\ngo 1\ntick 7\nfinish 1\n")
        clinic.chairs[0].machine.taking = True
        do(clinic, "tick 1")
        self.assertEqual(clinic.chairs[0].machine.took, 1750)


class DoneTest(PhaseTest):
    def test_phases(self):
        self.check_phases("done 1", (2, 3, 4))

    def test_joined(self):
        self.check_refused(JOINED, "done 1", -4)
        self.check_refused(RETURNING + "join 1\n", "done 1", -4)
        self.check_last(JOINED + "leave 1\ndone 1\n", 0)

    def test_answer(self):
        text = JOINED + "take 1 on\ngo 1\ntick 7\nleave 1\n"
        for before in (PRIMED, TREATING, RETURNING, text):
            self.check_written(before, "done 1", 0)
            chair = asked(before + "done 1\n", "chair")
            self.assertEqual([chair[name] for name in ("phase", "going", "taking", "session", "line_lot", "filter_lot",
                                                       "allowed")], [5, 0, 0, 0, 0, 0, 0])
        chair = asked(text + "done 1\n", "chair")
        self.assertEqual([chair[name] for name in ("goal", "t", "counted", "strokes", "took", "patient")],
                         [2000000, 7, 1750, 175, 1750, 1])


class CleaningTest(PhaseTest):
    def test_disinfect(self):
        self.check_phases("disinfect 1 1", (0, 1, 5, 6, 7))
        for phase in (0, 1, 5, 6, 7):
            self.check_written(PHASES[phase], "disinfect 1 2", 0)
            self.assertEqual(asked(PHASES[phase] + "disinfect 1 2\n", "chair")["phase"], 6)

    def path(self, text):
        plant = asked(text, "plant")
        return [plant["path%d" % place] for place in range(6)] + [plant["wall"], plant["good"]]

    def test_the_path_is_filled(self):
        self.assertEqual(self.path(""), [0] * 8)
        self.assertEqual(self.path("disinfect 1 1\n"), [1000, 0, 0, 0, 0, 0, 20, 0])
        self.assertEqual(self.path("disinfect 1 4\n"), [1000] * 4 + [0, 0, 80, 0])
        self.assertEqual(self.path("disinfect 1 99\n"), [1000] * 6 + [1980, 0])
        self.assertEqual(self.path("disinfect 1 100\n"), [1000] * 6 + [2000, 0])
        self.assertEqual(self.path("disinfect 1 100\ndisinfect 1 100\n"), [1000] * 6 + [2000, 0])
        self.assertEqual(self.path("disinfect 1 100\nrinse 1 1\ndisinfect 1 13\n"), [1000] * 6 + [2000, 0])

    def test_disinfect_makes_good_0(self):
        self.assertEqual(self.path(RINSED)[7], 6)
        self.assertEqual(self.path(RINSED + "disinfect 1 1\n")[7], 0)

    def test_rinse(self):
        self.check_phases("rinse 1 1", (6, 7))
        self.check_written(DISINFECTING, "rinse 1 3", 0, 3)
        self.check_written(RINSING, "rinse 1 3", 0, 4)
        self.assertEqual(asked(DISINFECTING + "rinse 1 1\n", "chair")["phase"], 7)
        self.assertEqual([last(DISINFECTING + "rinse 1 %d\n" % steps) for steps in range(1, 15)],
                         [[0, good] for good in (1, 2, 3, 4, 5, 0, 1, 2, 3, 4, 5, 6, 6, 6)])

    def test_the_path_flows(self):
        self.assertEqual(self.path("disinfect 1 1\nrinse 1 1\n"), [3, 1000, 0, 0, 0, 0, 17, 1])
        self.assertEqual(self.path("disinfect 1 1\nrinse 1 6\n"), [1, 2, 2, 2, 3, 3, 7, 0])
        self.assertEqual(self.path("disinfect 1 1\nrinse 1 13\n"), [1, 1, 1, 1, 1, 1, 0, 6])
        self.assertEqual(self.path("disinfect 1 1\nrinse 1 20\n"), [0, 0, 0, 0, 0, 0, 0, 6])
        self.assertEqual(self.path("disinfect 1 100\nrinse 1 1\n"), [250] + [1000] * 5 + [1750, 0])

    def test_less_than_5_is_good(self):
        clinic = clinic_behind(RINSING)
        machine = clinic.chairs[0].machine
        machine.good = 3
        machine.path = [0, 0, 0, 0, 5, 4]
        self.assertEqual(do(clinic, "rinse 1 1"), [0, 4])
        self.assertEqual(do(clinic, "rinse 1 1"), [0, 0])

    def test_clear(self):
        for phase, text in enumerate(PHASES):
            self.check_refused(text, "clear 1", -4 if phase == 7 else -3)
        self.check_refused(DISINFECTING + "rinse 1 11\n", "clear 1", -4)
        self.check_written(RINSED, "clear 1", 0)
        self.assertEqual(asked(RINSED + "clear 1\n", "chair")["phase"], 0)
        self.assertEqual(self.path(RINSED + "clear 1\n")[7], 6)
        self.check_refused(RINSED + "fail 1\nback 1\n", "clear 1", -4)

    def test_the_plan_s_record_stays(self):
        text = JOINED + "take 1 on\ngo 1\ntick 7\nleave 1\ndone 1\n"
        for more in ("", "disinfect 1 1\n", "disinfect 1 1\nrinse 1 12\n", "disinfect 1 1\nrinse 1 12\nclear 1\n",
                     "disinfect 1 1\nrinse 1 12\nclear 1\ntest 1\n",
                     "disinfect 1 1\nrinse 1 12\nclear 1\ntest 1\nlay 1\n"):
            chair = asked(text + more, "chair")
            self.assertEqual([chair[name] for name in ("goal", "t", "counted", "strokes")], [2000000, 7, 1750, 175])


class WholeDayTest(ClinicTest):
    def test_two_orders_two_days(self):
        self.check_last(PEOPLE + ORDER + STOCK + "ask board\n", 0)
        self.check_last(RETURNING + AGAIN % 1, 0, 2)
        self.check_last(SPENT + "disinfect 1 1\nrinse 1 12\nclear 1\n", 0)
