"""What the tests share: telling a clinic its text, reading its answers, and clinics that are far along."""

import unittest

from clinicdesk.clinic import answers
from clinicdesk.desk import do_command, do_line
from clinicdesk.holdings import Clinic
from clinicdesk.shapes import read_command


def as_bytes(text):
    return list(text.encode("latin-1")) if isinstance(text, str) else list(text)


def feed(text):
    data = as_bytes(text)
    return [0, len(data)] + data


def form(text):
    data = as_bytes(text)
    return [2, len(data)] + data


RECORD = [1]
PART = [3]


def split_answers(told):
    found = []
    place = 0
    while place < len(told):
        count = told[place]
        found.append(told[place + 1:place + 1 + count])
        assert len(found[-1]) == count
        place += 1 + count
    return found


def run(*calls):
    """The answers of these calls on one new clinic, each without its count."""
    return split_answers(answers([number for call in calls for number in call]))


def lines_of(fed):
    """What each line answered, from the answer of one feed."""
    found = split_answers(fed[1:])
    assert len(found) == fed[0]
    return found


def feeds(text):
    data = as_bytes(text)
    return [feed(data[place:place + 4096]) for place in range(0, len(data), 4096)]


def told(text):
    """What each line of the text answered on a new clinic."""
    found = []
    for fed in run(*feeds(text)):
        found.extend(lines_of(fed))
    return found


def last(text):
    return told(text)[-1]


def record_of(text):
    whole = run(*feeds(text), RECORD)[-1]
    assert whole[0] == len(whole) - 1
    return bytes(whole[1:]).decode("ascii")


def form_of(text):
    whole = run(form(text))[0]
    if whole[0] < 0:
        return whole
    assert whole[0] == len(whole) - 1
    return bytes(whole[1:]).decode("ascii")


def clinic_behind(text):
    """The clinic itself, for tests of what no text can reach."""
    clinic = Clinic()
    for line in text.splitlines():
        do_line(clinic, line.encode("ascii"))
    return clinic


def do(clinic, line):
    return do_command(clinic, read_command(line.split()))


QUESTIONS = ["ask now", "ask board"]
for kind, most in (("chair", 4), ("guard", 4), ("plant", 4), ("ledger", 4), ("patient", 8), ("order", 16),
                   ("lot", 16), ("session", 64)):
    QUESTIONS.extend("ask %s %d" % (kind, number) for number in range(1, most + 1))
ASK_ALL = "\n".join(QUESTIONS) + "\n"


def all_asked(text):
    return told(text + ASK_ALL)[-len(QUESTIONS):]


class ClinicTest(unittest.TestCase):
    maxDiff = None

    def check_last(self, text, *answer):
        """The last line of the text answers these numbers."""
        self.assertEqual(last(text), list(answer), text[-300:])

    def check_refused(self, text, line, refusal):
        """The line is refused behind the text, changes nothing and is not written down."""
        self.check_last(text + line + "\n", refusal)
        self.assertEqual(all_asked(text + line + "\n"), all_asked(text), line)
        self.assertEqual(record_of(text + line + "\n"), record_of(text), line)

    def check_written(self, text, line, *answer):
        """The line answers this behind the text and is written down in its one form."""
        self.check_last(text + line + "\n", *answer)
        self.assertEqual(record_of(text + line + "\n"), record_of(text) + form_of(line) + "\n")


# Clinics that are further and further along, all at chair 1 with patient 1.
PEOPLE = "patient 1 70kg 350 plain\nstaff 1 doctor\nstaff 2 nurse\n"
ORDER = "order 1 1 2L x9 catch 2h:1:900mL/h\nsign 1 1\nsign 1 2\n"
STOCK = "lot 1 line 9 100\nlot 2 filter 9 100\nwater ok\n"
CLINIC = PEOPLE + ORDER + STOCK + "seat 1 1\n"
TESTED = CLINIC + "test 1\n"
LAID = TESTED + "lay 1\n"
PRIMED = LAID + "bag 1 5L\nprime 1 20 drain\nreset 1 0\n"
TREATING = PRIMED + "start 1 1\n"
JOINED = TREATING + "join 1\npress 1 0 100\ncentre 1\n"
RETURNING = TREATING + "finish 1\n"
SPENT = TREATING + "done 1\n"
DISINFECTING = SPENT + "disinfect 1 1\n"
RINSING = DISINFECTING + "rinse 1 1\n"
RINSED = DISINFECTING + "rinse 1 12\n"
PHASES = (CLINIC, TESTED, PRIMED, TREATING, RETURNING, SPENT, DISINFECTING, RINSING)

# The places of what ask tells.
CHAIR = ("zero", "patient", "power", "phase", "going", "joined", "taking", "allowed", "latches", "session",
         "line_lot", "filter_lot", "goal", "t", "counted", "strokes", "took")
GUARD = ("latches", "clean", "readings", "readings_sum", "unlike", "streak", "uncentred", "still", "trap", "source",
         "h", "bag", "sink")
PLANT = ("zero", "drawn_red", "drawn_water", "drawn_air", "bag_water", "air_in", "given_red", "given_water",
         "given_air", "spilt_red", "spilt_water", "spilt_air", "drained_red", "drained_water", "drained_air",
         "thrown_red", "thrown_water", "thrown_air", "taken", "vented", "moves", "lines", "path0", "path1", "path2",
         "path3", "path4", "path5", "wall", "good")


def asked(text, kind, chair=1):
    """What ask tells of a chair, by name."""
    names = {"chair": CHAIR, "guard": GUARD, "plant": PLANT}[kind]
    whole = last(text + "ask %s %d\n" % (kind, chair))
    assert len(whole) == len(names), (whole, names)
    return dict(zip(names, whole))
