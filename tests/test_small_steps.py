"""Small steps: the power's failing armed at every one that an act has, and at one more."""

import unittest

from clinicdesk.machine import Machine, Memory, begins_step, kept_phase, kept_record, newest_slot, write_memory, write_phase
from clinicdesk.plans import PlanRecord
from helper import (DISINFECTING, JOINED, LAID, PRIMED, RETURNING, RINSED, RINSING, SPENT, TESTED, TREATING,
                    ClinicTest, asked, last)

# What stands ahead of the act, the act, and how many small steps it has.
ACTS = (
    ("", "test 1", 2),
    (TESTED, "lay 1", 3),
    (LAID + "bag 1 5L\n", "prime 1 7 drain", 7),
    (PRIMED, "prime 1 3 round", 3),
    (PRIMED, "start 1 1", 2),
    (TREATING, "finish 1", 2),
    (JOINED + "take 1 on\ngo 1\ntick 5\n", "finish 1", 2),
    (PRIMED, "done 1", 2),
    (TREATING, "done 1", 2),
    (RETURNING, "done 1", 2),
    (SPENT, "disinfect 1 4", 6),
    (DISINFECTING, "disinfect 1 4", 4),
    (RINSING, "disinfect 1 4", 6),
    (DISINFECTING, "rinse 1 4", 6),
    (RINSING, "rinse 1 4", 4),
    (RINSED, "clear 1", 2),
    (JOINED + "take 1 on\ngo 1\n", "tick 1", 3),
    (JOINED + "go 1\n", "tick 1", 1),
    (RETURNING + "go 1\n", "tick 1", 1),
)


def armed(ahead, step, act):
    return ahead + "arm 1 %d\n" % step + act + "\n"


def failed_guard(guard):
    """A guard as it is when the power has failed, but for latch 7 that is down in all these clinics."""
    return dict(guard, latches=0, clean=0, readings=0, readings_sum=0, unlike=0, streak=0, uncentred=0, sink=2)


class EveryStepTest(ClinicTest):
    def test_the_power_fails_at_every_small_step(self):
        for ahead, act, steps in ACTS:
            for step in range(steps):
                with self.subTest(act=act, step=step):
                    text = armed(ahead, step, act)
                    if not act.startswith("tick"):
                        self.check_written(ahead + "arm 1 %d\n" % step, act, 1)
                    chair = asked(text, "chair")
                    self.assertEqual((chair["power"], chair["going"], chair["taking"], chair["joined"]), (0, 0, 0, 0))
                    guard = asked(text, "guard")
                    self.assertEqual(guard, failed_guard(guard))
                    self.assertEqual(asked(text, "plant")["good"], 0)
                    # Nothing is armed any more.
                    self.assertEqual(asked(text + "back 1\nfault 1 A true\ndone 1\ndisinfect 1 9\n", "chair")["power"], 1)

    def test_one_more_lets_the_act_be_done(self):
        for ahead, act, steps in ACTS:
            with self.subTest(act=act):
                text = armed(ahead, steps, act)
                self.assertEqual(last(text), last(ahead + act + "\n"))
                for kind in ("chair", "guard", "plant"):
                    self.assertEqual(asked(text, kind), asked(ahead + act + "\n", kind))
                # All that was armed is used up: the next small step fails.
                self.assertEqual(asked(text, "chair")["power"], 1)
                clean = "leave 1\nhalt 1\n"
                phase = asked(text, "chair")["phase"]
                behind = "done 1\n" if phase in (2, 3, 4) else "disinfect 1 2\n"
                self.check_last(text + clean + behind, 1)

    def test_two_more_leaves_one_step(self):
        for ahead, act, steps in ACTS:
            text = armed(ahead, steps + 1, act) + "leave 1\n"
            phase = asked(text, "chair")["phase"]
            behind = "done 1\n" if phase in (2, 3, 4) else "disinfect 1 2\n"
            with self.subTest(act=act):
                self.check_last(text + behind, 1)
                self.assertEqual(asked(text + behind, "chair")["phase"], phase)


class PhaseTest(ClinicTest):
    def test_the_phase_is_the_old_one_till_the_second_small_step_is_done(self):
        for ahead, act, before, behind in (("", "test 1", 0, 1), (PRIMED, "start 1 1", 2, 3),
                                           (TREATING, "finish 1", 3, 4), (RETURNING, "done 1", 4, 5),
                                           (SPENT, "disinfect 1 1", 5, 6), (DISINFECTING, "rinse 1 1", 6, 7),
                                           (RINSED, "clear 1", 7, 0)):
            phases = [asked(armed(ahead, step, act), "chair")["phase"] for step in range(3)]
            self.assertEqual(phases, [before, before, behind])
            # What was not written can be written once more.
            for step in (0, 1):
                text = armed(ahead, step, act) + "back 1\n"
                if act.startswith(("test", "finish", "done", "disinfect", "rinse")):
                    self.assertEqual(asked(text + act + "\n", "chair")["phase"], behind)

    def test_it_can_be_done_behind_a_failing(self):
        text = "arm 1 1\ntest 1\nback 1\narm 1 0\ntest 1\nback 1\narm 1 1\ntest 1\nback 1\n"
        self.check_last(text + "test 1\n", 0, 0)
        self.check_last(text + "test 1\nfail 1\nback 1\n", 0, 1, 0, 0)


class ActTest(ClinicTest):
    def test_lay_takes_its_parts_before_any_small_step(self):
        for step in range(3):
            text = armed(TESTED, step, "lay 1")
            chair = asked(text, "chair")
            self.assertEqual((chair["phase"], chair["line_lot"], chair["filter_lot"]), (1, 1, 2))
            self.check_last(text + "ask lot 1\n", 0, 1, 100, 9, 8, 0, 1)
            self.check_last(text + "ask lot 2\n", 0, 0, 100, 9, 8, 0, 1)
            self.assertEqual(asked(text, "plant")["lines"], 1 if step == 0 else 2)
            self.assertEqual(asked(text, "plant")["thrown_air"], 0 if step == 0 else 16000)
            self.check_last(text + "back 1\nlay 1\n", 0, 1, 2)
            self.check_last(text + "back 1\nlay 1\nask lot 1\n", 0, 1, 100, 9, 7, 0, 1)

    def test_lay_s_new_line_when_the_writing_fails(self):
        still = TREATING + "join 1\ngo 1\ntick 2\nleave 1\ndone 1\ntick 121\ndisinfect 1 1\nrinse 1 12\nclear 1\ntest 1\n"
        for step, latches in ((0, 128), (1, 0), (2, 0)):
            guard = asked(armed(still, step, "lay 1"), "guard")
            self.assertEqual((guard["latches"], guard["sink"]), (latches, 2))

    def test_prime_aims_before_any_small_step(self):
        text = armed(LAID + "bag 1 5L\n", 0, "prime 1 5 drain")
        self.assertEqual(asked(text, "guard")["source"], 1)
        for step in range(5):
            text = armed(LAID + "bag 1 5L\n", step, "prime 1 5 drain")
            self.assertEqual(asked(text, "plant")["moves"], step)
            self.assertEqual(asked(text, "guard")["bag"], 5000000 - 1000 * step)
            self.assertEqual(asked(text, "chair")["phase"], 2)

    def test_start(self):
        for step in range(2):
            text = armed(PRIMED, step, "start 1 1")
            guard = asked(text, "guard")
            self.assertEqual((guard["h"], guard["source"]), (350, 1))
            chair = asked(text, "chair")
            self.assertEqual((chair["session"], chair["phase"], chair["goal"], chair["line_lot"]), (0, 2, 0, 1))
            self.check_last(text + "ask session 1\n", -3)
            self.check_last(text + "ask order 1\n", 0, 1, 2000000, 9, 0, 1, 1, 2, 0, 1)
            self.check_last(text + "back 1\nprime 1 5 drain\nstart 1 1\n", 0, 1)

    def test_start_keeps_what_the_session_took(self):
        text = (JOINED + "take 1 on\ngo 1\ntick 8\nleave 1\ndone 1\ndisinfect 1 1\nrinse 1 12\nclear 1\ntest 1\nlay 1\n"
                "bag 1 5L\nprime 1 20 drain\nreset 1 0\n")
        self.assertEqual([asked(armed(text, step, "start 1 1"), "chair")["took"] for step in range(3)], [2000, 2000, 0])

    def test_finish(self):
        text = JOINED + "take 1 on\ngo 1\ntick 5\n"
        for step, phase, source in ((0, 3, 2), (1, 3, 2), (2, 4, 1)):
            behind = armed(text, step, "finish 1")
            self.assertEqual(asked(behind, "guard")["source"], source)
            chair = asked(behind, "chair")
            self.assertEqual((chair["phase"], chair["goal"], chair["counted"], chair["strokes"], chair["t"]),
                             (phase, 2000000, 1250, 125, 5))
        # The record is still on when the writing failed.
        more = "back 1\ngo 1\ntick 5\njoin 1\ntake 1 on\ngo 1\ntick 1\nask chair 1\n"
        self.assertEqual(last(armed(text, 1, "finish 1") + more)[13:15], [6, 1500])

    def test_done_keeps_parts_and_session(self):
        for step in range(2):
            chair = asked(armed(TREATING, step, "done 1"), "chair")
            self.assertEqual((chair["phase"], chair["session"], chair["line_lot"], chair["filter_lot"]), (3, 1, 1, 2))
        chair = asked(armed(TREATING, 2, "done 1"), "chair")
        self.assertEqual((chair["phase"], chair["session"], chair["line_lot"], chair["filter_lot"]), (5, 0, 0, 0))

    def test_disinfect(self):
        for step in range(7):
            plant = asked(armed(SPENT, step, "disinfect 1 4"), "plant")
            self.assertEqual(plant["wall"], 20 * min(4, max(0, step - 2)))
            self.assertEqual(asked(armed(SPENT, step, "disinfect 1 4"), "chair")["phase"], 5 if step < 2 else 6)

    def test_rinse(self):
        walls = [20, 20, 20, 17, 14, 12, 10]
        for step in range(7):
            plant = asked(armed(DISINFECTING, step, "rinse 1 4"), "plant")
            self.assertEqual(plant["wall"], walls[step])
            self.assertEqual(plant["good"], 4 if step == 6 else 0)

    def test_a_stuck_channel_needs_no_small_step(self):
        self.check_last("fault 1 A 5\narm 1 0\ntest 1\n", 0, 1)
        self.check_last("fault 1 A 5\narm 1 0\ntest 1\nfault 1 A true\ntest 1\n", 1)

    def test_acts_without_small_steps(self):
        text = TREATING + "arm 1 0\n"
        for act in ("join 1", "take 1 on", "go 1", "halt 1", "bag 1 1L", "fault 1 A true", "slip 1 vein on",
                    "leak 1 1", "check 1", "press 1 0 100"):
            self.check_last(text + act + "\n", 0)
        self.check_last(text + "join 1\nleave 1\nfinish 1\n", 1)


class SecondTest(ClinicTest):
    TEXT = JOINED + "take 1 on\ngo 1\ntick 8\n"

    def test_a_second_of_three_small_steps(self):
        for step, t, counted, took, moves in ((0, 8, 2000, 2000, 28), (1, 8, 2000, 2000, 28), (2, 9, 2250, 2000, 28),
                                              (3, 9, 2250, 2250, 29)):
            text = armed(self.TEXT, step, "tick 1")
            chair = asked(text, "chair")
            self.assertEqual((chair["t"], chair["counted"], chair["took"]), (t, counted, took))
            self.assertEqual(asked(text, "plant")["moves"], moves)
            self.assertEqual(chair["power"], 1 if step == 3 else 0)
            self.check_last(text + "ask session 1\n", 0, 1, 1, 1, 0, 1, 2, took)
            self.assertEqual(asked(text, "guard")["still"], 0 if step == 3 else 1)

    def test_a_second_of_one_small_step(self):
        text = self.TEXT + "take 1 off\n"
        for step, moves in ((0, 28), (1, 29)):
            self.assertEqual(asked(armed(text, step, "tick 1"), "plant")["moves"], moves)

    def test_a_failing_within_a_long_tick(self):
        # Three small steps a second: the 5th second fails at its first small step, the 6th at its last.
        for step, t, moves in ((12, 12, 32), (13, 12, 32), (14, 13, 32), (15, 13, 33)):
            text = armed(self.TEXT, step, "tick 60")
            self.assertEqual((asked(text, "chair")["t"], asked(text, "plant")["moves"]), (t, moves))
            self.assertEqual(asked(text, "guard")["still"], 60 - (moves - 28))

    def test_a_tick_that_fails_is_written_down_and_tells_all(self):
        self.check_written(self.TEXT + "arm 1 2\n", "tick 1", 0, 9, 0, 2250, 0, 0, 0, 0, 0, 0)

    def test_a_machine_that_does_not_move_takes_no_small_step(self):
        self.check_last(TREATING + "arm 1 0\ntick 9\nask chair 1\n", *last(TREATING + "ask chair 1\n"))


class SlotTest(unittest.TestCase):
    def memory(self, phase):
        return Memory(phase, PlanRecord(False, 0, False, ()))

    def test_a_new_machine(self):
        machine = Machine()
        self.assertEqual((newest_slot(machine), machine.slots[0][0], machine.slots[1], kept_phase(machine)),
                         (0, 0, None, 0))
        record = kept_record(machine)
        self.assertEqual((record.on, record.goal, record.catching, len(record.plan)), (False, 0, False, 0))
        self.assertEqual((record.t, record.counted, record.strokes), (0, 0, 0))

    def test_writing_goes_from_slot_to_slot(self):
        machine = Machine()
        found = []
        for phase in (1, 2, 3, 4):
            self.assertTrue(write_memory(machine, self.memory(phase)))
            found.append((newest_slot(machine), machine.slots[newest_slot(machine)][0], kept_phase(machine)))
        self.assertEqual(found, [(1, 1, 1), (0, 2, 2), (1, 3, 3), (0, 4, 4)])

    def test_a_writing_that_fails_spoils_the_other_slot_alone(self):
        machine = Machine()
        write_phase(machine, 1)
        machine.armed = 0
        self.assertFalse(write_phase(machine, 2))
        self.assertEqual([slot[0] for slot in machine.slots], [0, 1])
        machine.armed = 1
        self.assertFalse(write_phase(machine, 2))
        self.assertIsNone(machine.slots[0])
        self.assertEqual((newest_slot(machine), kept_phase(machine)), (1, 1))
        machine.armed = 2
        self.assertTrue(write_phase(machine, 2))
        self.assertEqual((newest_slot(machine), machine.slots[0][0], kept_phase(machine), machine.armed), (0, 2, 2, 0))

    def test_begins_step(self):
        machine = Machine()
        self.assertTrue(begins_step(machine))
        machine.armed = 2
        self.assertEqual([begins_step(machine) for times in range(4)], [True, True, False, True])
        self.assertIsNone(machine.armed)
        self.assertFalse(machine.power)
