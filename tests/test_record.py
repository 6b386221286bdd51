"""The record: read by a new clinic it brings back the same clinic; and what holds of every clinic, told at random."""

import random

from clinicdesk.desk import do_line
from clinicdesk.holdings import Clinic
from clinicdesk.shapes import one_form, read_command
from helper import (JOINED, QUESTIONS, RECORD, SPENT, TREATING, ClinicTest, all_asked, feed, feeds, form_of, record_of,
                    run, told)

LONG_DAY = (
    "patient 1 70kg 350 plain\npatient 2 80.5kg 420 plain\npatient 3 95kg 300 marked\n"
    "staff 1 doctor\nstaff 2 nurse\nstaff 3 nurse\n"
    "order 1 1 2L x2 catch 1h:3:600mL/h 0.5h:1:900mL/h\norder 2 2 1.5L x9 plain 2h:1:1L/h\n"
    "order 3 3 3L x1 catch 30min:1:1.2L/h 10s:0:0uL/h 1h:2:1L/h\n"
    "sign 1 1\nsign 1 2\nsign 2 3\nsign 2 1\nsign 3 1\nsign 3 3\nsign 3 2\n"
    "lot 1 line 5 3\nlot 2 line 5 2\nlot 3 filter 5 4\nlot 4 filter 1 1\n"
    "seat 1 1\nseat 2 2\nseat 3 4\nseat 3 3\nwater ok\n"
    "test 1\nlay 1\nbag 1 1.5L\nprime 1 12 drain\nprime 1 8 round\nreset 1 0\nstart 1 1\njoin 1\npress 1 -120 90\n"
    "centre 1\ntake 1 on\ngo 1\n"
    "test 2\nlay 2\nbag 2 2L\nprime 2 100 drain\nreset 2 0\nstart 2 2\njoin 2\npress 2 -80 120\ncentre 2\ntake 2 on\n"
    "go 2\n"
    "test 4\nlay 4\nbag 4 5L\nprime 4 30 drain\nreset 4 0\nstart 4 3\njoin 4\ntake 4 on\ngo 4\ntick 9\npress 4 0 200\n"
    "centre 4\ntick 600\nfault 2 A 90\ntick 30\nfault 2 A true\ncheck 2\nreset 2 1\ngo 2\nslip 1 vein on\ntick 20\n"
    "slip 1 vein off\npress 1 50 90\nleave 1\npress 1 0 0\nreset 1 3\njoin 1\ncentre 1\narm 4 100\ntick 100\nback 4\n"
    "go 4\ntick 40\njoin 4\npress 4 0 150\ncentre 4\ntake 4 on\ngo 4\ntick 300\nleak 4 2000\nleak 4 2000\nleak 4 2000\n"
    "tick 5\nleak 4 10\nreset 4 2\nfinish 2\ntick 60\nleave 2\narm 2 1\ndone 2\nback 2\ndone 2\nunseat 2\n"
    "disinfect 2 50\nrinse 2 90\nclear 2\nrecall 4\nwater bad\ntick 200\nwater ok\nend 3\ntick 5\nvent 4\n"
)


class ReplayTest(ClinicTest):
    def check_replay(self, text):
        record = record_of(text)
        self.assertEqual(all_asked(record), all_asked(text))
        self.assertEqual(record_of(record), record)
        self.assertTrue(all(answer[0] >= 0 for answer in told(record)))
        for line in record.splitlines():
            self.assertEqual(form_of(line), line)

    def test_a_long_day(self):
        answers_of_lines = told(LONG_DAY)
        self.assertGreater(len([answer for answer in answers_of_lines if answer[0] >= 0]), 100)
        self.assertGreater(len([answer for answer in answers_of_lines if answer[0] < 0]), 3)
        self.check_replay(LONG_DAY)

    def test_every_part_of_a_long_day(self):
        lines = LONG_DAY.splitlines(keepends=True)
        for count in range(0, len(lines), 9):
            self.check_replay("".join(lines[:count]))

    def test_what_comes_behind_is_the_same_too(self):
        record = record_of(LONG_DAY)
        more = "tick 300\nback 1\ngo 1\ngo 2\ngo 4\ntick 30\nrecall 1\nask board\ntest 3\nlay 3\nprime 3 40 drain\n"
        behind = len(more.splitlines())
        self.assertEqual(told(record + more)[-behind:], told(LONG_DAY + more)[-behind:])
        self.check_replay(LONG_DAY + more)

    def test_a_power_that_stays_armed_is_brought_back(self):
        text = TREATING + "arm 1 5\ngo 1\ntick 2\n"
        self.check_replay(text)
        self.assertEqual(told(record_of(text) + "finish 1\n")[-1], [0, 2000000, 0, 0, 0])
        self.assertEqual(told(record_of(text) + "finish 1\ndone 1\n")[-1], [1])

    def test_the_record_s_bytes(self):
        found = run(feed("  water   ok\ntick 007\n"), RECORD)
        self.assertEqual(found[1], [16] + list(b"water ok\ntick 7\n"))

    def test_the_record_is_read_in_one_feed_or_many(self):
        record = record_of(JOINED)
        whole = run(*feeds(record), RECORD)[-1]
        pieces = [feed(record[place:place + 50]) for place in range(0, len(record), 50)]
        self.assertEqual(run(*pieces, RECORD)[-1], whole)

    def test_lots_of_a_spent_chair(self):
        self.check_replay(SPENT + "disinfect 1 3\nrinse 1 40\nclear 1\ntest 1\narm 1 2\nlay 1\nback 1\nlay 1\n")


# Lines at random; the more often one stands here, the more often it's told.
RANDOM_LINES = (
    ["tick %d" % seconds for seconds in (1, 1, 2, 3, 5, 9, 10, 11, 20, 40, 121, 300)] * 3
    + ["water ok", "water bad", "recall 1", "lot 5 line 3 9", "lot 6 filter 3 9", "end 2", "unseat 1", "seat 1 1", "seat 2 1",
       "patient 1 65kg 500 plain", "patient 2 60kg 720 plain"]
    + ["test 1", "lay 1", "bag 1 60mL", "bag 1 1L", "prime 1 12 drain", "prime 1 30 drain", "prime 1 5 round",
       "reset 1 0", "start 1 1", "start 1 2", "join 1", "join 1", "press 1 0 100", "centre 1", "take 1 on", "go 1",
       "go 1", "leave 1", "take 1 off", "finish 1", "done 1", "disinfect 1 3", "rinse 1 30", "clear 1"] * 3
    + ["halt 1", "fault 1 A 70", "fault 1 A 0", "fault 1 A true", "slip 1 artery on", "slip 1 artery off", "slip 1 vein on",
       "slip 1 vein off", "press 1 150 5", "press 1 70 100", "leak 1 1000", "leak 1 0", "vent 1", "check 1", "arm 1 0",
       "arm 1 1", "arm 1 2", "arm 1 7", "disarm 1", "fail 1", "back 1", "back 1"]
    + ["reset 1 %d" % latch for latch in range(1, 8)]
    # Whole ways, so that the days get far enough.
    + ["back 1\ndisarm 1\nslip 1 artery off\nvent 1\ntest 1\nlay 1\nbag 1 1L\nprime 1 20 drain\nreset 1 0\nwater ok\n"
       "seat 1 1\nstart 1 1\ngo 1\ntick 5\njoin 1\ntake 1 on\npress 1 0 100\ncentre 1\ngo 1",
       "back 1\nfault 1 A true\ncheck 1\nseat 2 1\nstart 1 2\njoin 1\ngo 1",
       "back 1\ngo 1\ntick 20\nreset 1 0\njoin 1\npress 1 0 100\ncentre 1\ntake 1 on\ngo 1\ntick 9",
       "leave 1\ndone 1\ndisinfect 1 1\nrinse 1 30\nclear 1\nunseat 1"] * 6
)
AHEAD = ("patient 1 70kg 350 plain\npatient 2 60kg 720 plain\nstaff 1 doctor\nstaff 2 nurse\n"
         "order 1 1 2L x99 catch 1h:3:600mL/h 30s:0:900mL/h\norder 2 2 1L x99 plain 9s:1:700mL/h 1h:2:100mL/h\n"
         "sign 1 1\nsign 1 2\nsign 2 1\nsign 2 2\nlot 1 line 999 9\nlot 2 filter 999 9\nlot 3 line 999 10\nwater ok\nseat 1 1\n")


def random_day(seed, count):
    source = random.Random(seed)
    return AHEAD + "".join(source.choice(RANDOM_LINES) + "\n" for line in range(count))


class RandomTest(ClinicTest):
    def check_conserved(self, machine):
        """Nothing is lost: what came in is what went out and what is still there."""
        totals = machine.totals
        held = [sum(cell[place] for cell in machine.cells) for place in range(3)]
        out = [totals.given[place] + totals.spilt[place] + totals.drained[place] + totals.thrown[place]
               for place in range(3)]
        self.assertEqual(totals.drawn[0], held[0] + out[0])
        self.assertEqual(totals.drawn[1] + totals.bag_water, held[1] + out[1] + totals.taken)
        self.assertEqual(totals.drawn[2] + totals.air_in, held[2] + out[2] + machine.trap + totals.vented)
        self.assertTrue(all(sum(cell) <= 1000 and min(cell) >= 0 for cell in machine.cells))
        self.assertLessEqual(machine.trap, 20000)

    def check_safe(self, clinic):
        """No air to a patient, and no more fluid than the order tells, with at most one channel stuck."""
        chair = clinic.chairs[0]
        self.assertLess(chair.ledger.most, 200)
        self.assertLess(chair.ledger.four, 400)
        for session in clinic.sessions:
            self.assertLessEqual(session.taken, clinic.orders[session.order].goal)
        for patient in clinic.patients.values():
            self.assertLessEqual(patient.given, patient.drawn)
        self.assertEqual(chair.since is not None, chair.machine.guard.latches > 0)

    def test_what_holds_of_every_clinic(self):
        seen = {}
        for seed in range(60):
            clinic = Clinic()
            for line in random_day(seed, 150).splitlines():
                length = len(clinic.record)
                answer = do_line(clinic, line.encode("ascii"))
                seen.setdefault(line, set()).add(answer[0])
                self.check_conserved(clinic.chairs[0].machine)
                self.check_safe(clinic)
                written = len(one_form(read_command(line.split()))) + 1 if answer[0] >= 0 else 0
                self.assertEqual(len(clinic.record), length + written)
        # The days at random do reach what they are to reach.
        for line in ("start 1 1", "start 1 2", "join 1", "finish 1", "done 1", "clear 1"):
            self.assertIn(0, seen[line])

    def test_every_record_brings_back_its_clinic(self):
        for seed in range(100, 115):
            text = random_day(seed, 150)
            record = record_of(text)
            self.assertEqual(all_asked(record), all_asked(text))
            self.assertEqual(record_of(record), record)

    def test_a_refusal_changes_nothing(self):
        for seed in range(200, 206):
            clinic = Clinic()
            for line in random_day(seed, 120).splitlines():
                before = [do_line(clinic, question.encode("ascii")) for question in QUESTIONS[:60]]
                if do_line(clinic, line.encode("ascii"))[0] < 0:
                    behind = [do_line(clinic, question.encode("ascii")) for question in QUESTIONS[:60]]
                    self.assertEqual(behind, before, line)
