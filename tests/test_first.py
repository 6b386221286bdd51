"""What's looked at first: -1, then -99, then -2, then a command's own refusals; and what is written down."""

from clinicdesk.holdings import Clinic
from helper import CLINIC, RECORD, TREATING, ClinicTest, all_asked, do, feed, last, record_of, run, told

ACTS = ["test 1", "lay 1", "prime 1 1 drain", "start 1 1", "join 1", "leave 1", "take 1 on", "go 1", "halt 1",
        "finish 1", "done 1", "disinfect 1 1", "rinse 1 1", "clear 1", "bag 1 1L", "fault 1 A 1", "fault 1 B true",
        "slip 1 vein on", "press 1 0 100", "centre 1", "leak 1 0", "vent 1", "check 1", "reset 1 0", "arm 1 1",
        "disarm 1", "fail 1"]


def filled(length):
    """A clinic whose record has this length, with chair 1 without power."""
    clinic = Clinic()
    clinic.record = [35] * length
    clinic.chairs[0].machine.power = False
    return clinic


class OrderOfRefusalsTest(ClinicTest):
    def test_minus_1_ahead_of_minus_99(self):
        self.assertEqual(do(filled(20000), "seat 9 1"), [-1])
        self.assertEqual(do(filled(20000), "bag 1 6L"), [-1])

    def test_minus_99_ahead_of_minus_2(self):
        self.assertEqual(do(filled(20000), "bag 1 1L"), [-99])
        self.assertEqual(do(filled(0), "bag 1 1L"), [-2])

    def test_minus_99_ahead_of_a_commands_own_refusals(self):
        self.assertEqual(do(filled(20000), "seat 1 1"), [-99])
        self.assertEqual(do(filled(0), "seat 1 1"), [-3])
        self.assertEqual(do(filled(20000), "back 2"), [-99])
        self.assertEqual(do(filled(0), "back 2"), [-3])

    def test_minus_2_ahead_of_an_acts_own_refusals(self):
        for act in ACTS:
            self.check_refused("fail 1\n", act, -2)
            self.check_refused(TREATING + "fail 1\n", act, -2)

    def test_minus_2_is_of_that_chair_alone(self):
        self.assertEqual(told("fail 1\nbag 2 1L\nunseat 1\nback 1\n"), [[0], [0], [-3], [0, 0, 0, 0]])

    def test_minus_1_ahead_of_minus_2(self):
        for line in ("bag 1 6L", "prime 1 0 drain", "start 1 17", "arm 1 1000001", "reset 1 8", "leak 1 1000001"):
            self.check_refused("fail 1\n", line, -1)

    def test_several_numbers_out_of_range(self):
        self.check_refused("", "patient 9 1g 2000 plain", -1)
        self.check_refused("", "patient 1 70kg 1001 plain", -1)


class RecordLengthTest(ClinicTest):
    def test_just_20000_and_one_beyond(self):
        for length, answer in ((20000 - 9, [0]), (20000 - 8, [-99]), (20000, [-99])):
            clinic = filled(length)
            self.assertEqual(do(clinic, "water ok"), answer)
            self.assertEqual(len(clinic.record), 20000 if answer == [0] else length)
            self.assertEqual(clinic.water_test, "ok" if answer == [0] else None)

    def test_the_length_of_the_one_form_counts(self):
        self.assertEqual(do(filled(20000 - 13), "bag 2 0005mL"), [0])
        self.assertEqual(do(filled(20000 - 12), "bag 2 5mL"), [-99])

    def test_by_a_text(self):
        # "water bad" with its byte 10 has 10 bytes.
        full = run(*[feed("water bad\n" * 400)] * 3, *[feed("water bad\n" * 400)] * 2, feed("water bad\n"), RECORD,
                   feed("book\nwater bad\nask now\n"))
        self.assertEqual(full[4], [400] + [1, 0] * 400)
        self.assertEqual(full[5], [1, 1, -99])
        self.assertEqual(full[6][0], 20000)
        self.assertEqual(full[7], [3, 1, 0, 1, 0, 8, 0, 0, 0, 2, 0, 0, 0, 10])

    def test_ask_and_book_are_done_with_a_full_record(self):
        clinic = filled(20000)
        self.assertEqual(do(clinic, "ask board"), [0])
        self.assertEqual(len(clinic.record), 20000)
        self.assertEqual(do(clinic, "book"), [0])
        self.assertEqual(clinic.record, [])


class WrittenDownTest(ClinicTest):
    def test_commands_in_their_one_form(self):
        self.assertEqual(record_of("patient  02 72.5kg 350 plain\n bag 1 5mL\nwater ok \n"),
                         "patient 2 72500g 350 plain\nbag 1 5000uL\nwater ok\n")

    def test_ask_is_never_written_down(self):
        before = record_of(CLINIC)
        for question in ("ask now", "ask chair 1", "ask guard 1", "ask plant 1", "ask ledger 1", "ask patient 1",
                         "ask order 1", "ask lot 1", "ask session 1", "ask board", "ask order 9", "ask chair 9"):
            self.assertEqual(record_of(CLINIC + question + "\n"), before)

    def test_book_empties_the_record_and_is_not_written_down(self):
        self.assertEqual(last(CLINIC + "book\n"), [0])
        self.assertEqual(record_of(CLINIC + "book\n"), "")
        self.assertEqual(record_of(CLINIC + "book\ntick 1\n"), "tick 1\n")
        behind = all_asked(CLINIC + "book\n")
        before = all_asked(CLINIC)
        self.assertEqual(behind[0][:-1], before[0][:-1])
        self.assertEqual(behind[0][-1], 0)
        self.assertEqual(behind[1:], before[1:])

    def test_what_is_no_command_is_not_written_down(self):
        self.assertEqual(record_of("x\n# x\n\nwater\ntick 601\nseat 1 1\n" + "y" * 300 + "\n"), "")

    def test_answers_other_than_0_are_written_down(self):
        text = TREATING + "join 1\n"
        self.check_written(text, "press 1 500 500", 24)
        self.check_written("fault 1 A 5\n", "check 1", 1)
        self.check_written("fault 1 A 5\n", "test 1", 0, 1)
        self.check_written("arm 1 0\n", "test 1", 1)
        self.check_written("leak 1 1000\nleak 1 1000\n", "leak 1 1000", 4)
        self.check_written("", "tick 3", 0, 3, 0, 0, 0, 0, 0, 0, 0, 0)

    def test_an_act_in_which_the_power_failed_is_written_down(self):
        self.check_written(TREATING + "arm 1 1\n", "finish 1", 1)
