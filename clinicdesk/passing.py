"""Time: the seconds of the clinic and of its chairs."""

from clinicdesk.holdings import is_allowed, mark_since
from clinicdesk.machine import has_red, is_joined, is_latched, kept_phase, raise_latch
from clinicdesk.pump import machine_second


def blood_stands(machine):
    guard = machine.guard
    if has_red(machine):
        guard.still = min(1000000, guard.still + 1)
    else:
        guard.still = 0
    if guard.still > 120:
        raise_latch(guard, 7)


def may_move_by_phase(clinic, chair):
    phase = kept_phase(chair.machine)
    return phase == 4 or (phase == 3 and is_allowed(clinic, chair))


def is_moving(clinic, chair):
    machine = chair.machine
    if not machine.going or not machine.power or machine.totals.moves >= 1000000000:
        return False
    if is_joined(machine) and is_latched(machine):
        return False
    return may_move_by_phase(clinic, chair)


def stand_still(clinic, chair):
    machine = chair.machine
    machine.going = False
    if machine.taking and kept_phase(machine) == 3 and not is_allowed(clinic, chair):
        machine.taking = False
    blood_stands(machine)


def enter_air(ledger, air):
    ledger.most = max(ledger.most, air)
    ledger.four = max(ledger.four, air + sum(ledger.airs))
    ledger.airs = [air] + ledger.airs[:2]


def red_back(totals):
    return totals.given[0] + totals.spilt[0]


def note_patient(clinic, chair, drawn, given):
    if chair.patient > 0:
        patient = clinic.patients[chair.patient]
        patient.drawn += drawn
        patient.given += given


def note_session(clinic, chair, taken):
    if chair.session > 0:
        session = clinic.sessions[chair.session - 1]
        session.taken += taken


def move_on(clinic, chair):
    machine = chair.machine
    totals = machine.totals
    joined = is_joined(machine)
    air = machine.cells[15][2]
    drawn = totals.drawn[0]
    given = red_back(totals)
    taken = totals.taken
    if not machine_second(machine):
        blood_stands(machine)
        return
    if joined:
        enter_air(chair.ledger, air)
    note_session(clinic, chair, totals.taken - taken)
    note_patient(clinic, chair, totals.drawn[0] - drawn, red_back(totals) - given)


def chair_second(clinic, chair):
    if is_moving(clinic, chair):
        move_on(clinic, chair)
    else:
        stand_still(clinic, chair)
    mark_since(clinic, chair)


def pass_second(clinic):
    clinic.clock += 1
    for chair in clinic.chairs:
        chair_second(clinic, chair)
