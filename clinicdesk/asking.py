"""Asking: what the clinic tells of itself, with nothing changed."""

from clinicdesk.holdings import chair_at, is_allowed, is_seated, is_usable, is_water_good, today
from clinicdesk.machine import is_joined, is_latched, kept_phase, kept_record

WATER_TESTS = {"ok": 1, "bad": 2}


def yes_no(holds):
    if holds:
        return 1
    return 0


def ask_now(clinic, operands):
    test = WATER_TESTS.get(clinic.water_test, 0)
    good = yes_no(is_water_good(clinic))
    return [0, clinic.clock, today(clinic), test, clinic.water_clock, good, len(clinic.sessions), len(clinic.record)]


def ask_chair(clinic, operands):
    chair = chair_at(clinic, operands[0])
    machine = chair.machine
    record = kept_record(machine)
    told = [0, chair.patient, yes_no(machine.power), kept_phase(machine), yes_no(machine.going)]
    told.extend([yes_no(is_joined(machine)), yes_no(machine.taking), yes_no(is_allowed(clinic, chair))])
    told.extend([machine.guard.latches, chair.session, chair.line_lot, chair.filter_lot])
    told.extend([record.goal, record.t, record.counted, record.strokes, machine.took])
    return told


def ask_guard(clinic, operands):
    machine = chair_at(clinic, operands[0]).machine
    guard = machine.guard
    told = [guard.latches, guard.clean, len(guard.readings), sum(guard.readings), guard.unlike, guard.streak]
    told.extend([guard.uncentred, guard.still, machine.trap, machine.source, machine.haematocrit])
    told.extend([machine.bag, machine.sink])
    return told


def ask_plant(clinic, operands):
    machine = chair_at(clinic, operands[0]).machine
    totals = machine.totals
    told = [0] + totals.drawn + [totals.bag_water, totals.air_in]
    told.extend(totals.given + totals.spilt + totals.drained + totals.thrown)
    told.extend([totals.taken, totals.vented, totals.moves, totals.lines])
    told.extend(machine.path + [machine.wall, machine.good])
    return told


def ask_ledger(clinic, operands):
    ledger = chair_at(clinic, operands[0]).ledger
    return [0, ledger.most, ledger.four, len(ledger.airs), sum(ledger.airs)]


def ask_patient(clinic, operands):
    patient = clinic.patients.get(operands[0])
    if patient is None:
        return [-3]
    seated = yes_no(is_seated(clinic, operands[0]))
    return [0, patient.weight, patient.haematocrit, yes_no(patient.marked), seated, patient.drawn, patient.given]


def ask_order(clinic, operands):
    order = clinic.orders.get(operands[0])
    if order is None:
        return [-3]
    told = [0, order.patient, order.goal, order.good_for, order.begun, yes_no(order.catching)]
    told.extend([order.signers["doctor"], order.signers["nurse"], yes_no(order.ended), len(order.plan)])
    return told


def ask_lot(clinic, operands):
    lot = clinic.lots.get(operands[0])
    if lot is None:
        return [-3]
    told = [0, yes_no(lot.kind == "line"), lot.day, lot.received, lot.left]
    told.extend([yes_no(lot.recalled), yes_no(is_usable(clinic, lot))])
    return told


def ask_session(clinic, operands):
    if operands[0] > len(clinic.sessions):
        return [-3]
    session = clinic.sessions[operands[0] - 1]
    told = [0, session.patient, session.order, session.chair, session.clock]
    told.extend([session.line_lot, session.filter_lot, session.taken])
    return told


# The latches 0 and 7 have the worths 1 and 128, the latches 1, 2 and 4 the worths 2, 4 and 16.
def gravity(latches):
    if (latches & 129) > 0:
        return 3
    if (latches & 22) > 0:
        return 2
    return 1


def ask_board(clinic, operands):
    rows = []
    for chair in clinic.chairs:
        if is_latched(chair.machine):
            rows.append((-gravity(chair.machine.guard.latches), chair.since, chair.number))
    told = [0]
    for row in sorted(rows):
        told.extend([row[2], -row[0], row[1]])
    return told


QUESTIONS = {
    "ask now": ask_now,
    "ask chair": ask_chair,
    "ask guard": ask_guard,
    "ask plant": ask_plant,
    "ask ledger": ask_ledger,
    "ask patient": ask_patient,
    "ask order": ask_order,
    "ask lot": ask_lot,
    "ask session": ask_session,
    "ask board": ask_board,
}


def is_question(name):
    return name in QUESTIONS


def answer_question(clinic, command):
    ask = QUESTIONS[command.name]
    return ask(clinic, command.operands)
