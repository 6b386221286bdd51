"""Acts of a treatment at a chair, from the machine's test to the end of the session."""

from clinicdesk.holdings import (Session, is_in_force, is_too_much, is_treating_or_returning, is_usable,
                                 is_water_good)
from clinicdesk.machine import (Memory, add_cell, aim, begins_step, fill_with_air, forget_readings, is_joined,
                                is_latched, is_sure, kept_phase, kept_record, let_air_out, stuck_channels,
                                write_memory, write_phase)
from clinicdesk.plans import PlanRecord, record_off
from clinicdesk.pump import step_pump


def test_channels(clinic, chair, operands):
    machine = chair.machine
    if kept_phase(machine) != 0:
        return [-3]
    stuck = stuck_channels(machine)
    if stuck > 0:
        return [0, stuck]
    if not write_phase(machine, 1):
        return [1]
    return [0, 0]


# The number of the lot of this kind that is to be used next, 0 if there is none.
def next_lot(clinic, kind):
    best = 0
    for number in sorted(clinic.lots):
        lot = clinic.lots[number]
        if lot.kind == kind and lot.left > 0 and is_usable(clinic, lot):
            if best == 0 or lot.day < clinic.lots[best].day:
                best = number
    return best


def use_one(clinic, number):
    lot = clinic.lots[number]
    lot.left -= 1


def lay_new_line(machine):
    guard = machine.guard
    for cell in machine.cells:
        add_cell(machine.totals.thrown, cell)
    let_air_out(machine)
    fill_with_air(machine)
    machine.sink = 0
    forget_readings(guard)
    guard.still = 0
    guard.latches = 0


def lay_line(clinic, chair, operands):
    machine = chair.machine
    if kept_phase(machine) != 1:
        return [-3]
    line_lot = next_lot(clinic, "line")
    filter_lot = next_lot(clinic, "filter")
    if line_lot == 0:
        return [-4]
    if filter_lot == 0:
        return [-5]
    if machine.totals.lines >= 1000000:
        return [-6]
    use_one(clinic, line_lot)
    use_one(clinic, filter_lot)
    chair.line_lot = line_lot
    chair.filter_lot = filter_lot
    machine.going = False
    if not begins_step(machine):
        return [1]
    lay_new_line(machine)
    if not write_phase(machine, 2):
        return [1]
    return [0, line_lot, filter_lot]


def prime_line(clinic, chair, operands):
    machine = chair.machine
    if kept_phase(machine) != 2:
        return [-3]
    if machine.totals.moves + operands[0] > 1000000000:
        return [-4]
    aim(machine, 0 if operands[1] == "drain" else 2)
    machine.source = 1
    for move in range(operands[0]):
        if not step_pump(machine, 0):
            return [1]
    return [0, machine.guard.latches, machine.guard.clean]


def is_order_for(order, patient):
    return order is not None and order.patient == patient and is_in_force(order)


def has_usable_parts(clinic, chair):
    if chair.line_lot == 0:
        return False
    return is_usable(clinic, clinic.lots[chair.line_lot]) and is_usable(clinic, clinic.lots[chair.filter_lot])


# The refusal of a start that is due first, 0 if there is none.
def start_refusal(clinic, chair, order):
    machine = chair.machine
    if kept_phase(machine) != 2:
        return -3
    if chair.patient == 0:
        return -4
    if not is_order_for(order, chair.patient):
        return -5
    if order.begun >= order.good_for:
        return -6
    if not is_water_good(clinic):
        return -7
    if not has_usable_parts(clinic, chair):
        return -8
    if len(clinic.sessions) >= 64:
        return -9
    if is_latched(machine):
        return -10
    if not is_sure(machine):
        return -11
    if is_too_much(clinic, order):
        return -12
    return 0


def begin_session(clinic, chair, number):
    order = clinic.orders[number]
    session = Session(chair.patient, number, chair.number, clinic.clock, chair.line_lot, chair.filter_lot)
    clinic.sessions.append(session)
    chair.session = len(clinic.sessions)
    order.begun += 1


def start_session(clinic, chair, operands):
    machine = chair.machine
    order = clinic.orders.get(operands[0])
    refusal = start_refusal(clinic, chair, order)
    if refusal < 0:
        return [refusal]
    machine.haematocrit = clinic.patients[chair.patient].haematocrit
    machine.going = False
    if not write_memory(machine, Memory(3, PlanRecord(True, order.goal, order.catching, order.plan))):
        return [1]
    machine.took = 0
    machine.taking = False
    aim(machine, 2)
    machine.source = 2
    begin_session(clinic, chair, operands[0])
    return [0, chair.session]


def join_patient(clinic, chair, operands):
    machine = chair.machine
    ledger = chair.ledger
    if not is_treating_or_returning(machine):
        return [-3]
    if is_joined(machine):
        return [-4]
    if is_latched(machine):
        return [-5]
    if not is_sure(machine):
        return [-6]
    aim(machine, 1)
    ledger.airs = []
    return [0]


def leave_patient(clinic, chair, operands):
    if not is_joined(chair.machine):
        return [-3]
    aim(chair.machine, 2)
    return [0]


def switch_taking(clinic, chair, operands):
    machine = chair.machine
    if kept_phase(machine) != 3:
        return [-3]
    machine.taking = operands[0] == "on"
    return [0]


def go_on(clinic, chair, operands):
    machine = chair.machine
    if not is_treating_or_returning(machine):
        return [-3]
    machine.going = True
    return [0]


def halt_machine(clinic, chair, operands):
    machine = chair.machine
    machine.going = False
    return [0]


# Writes this phase with the record off; gives back whether the power held.
def end_record(machine, phase):
    if not write_memory(machine, Memory(phase, record_off(kept_record(machine)))):
        return False
    machine.taking = False
    return True


def finish_treating(clinic, chair, operands):
    machine = chair.machine
    if kept_phase(machine) != 3:
        return [-3]
    if not end_record(machine, 4):
        return [1]
    machine.source = 1
    record = kept_record(machine)
    return [0, record.goal, record.counted, record.strokes, record.t]


def be_done(clinic, chair, operands):
    machine = chair.machine
    if kept_phase(machine) != 2 and not is_treating_or_returning(machine):
        return [-3]
    if is_joined(machine):
        return [-4]
    if not end_record(machine, 5):
        return [1]
    chair.line_lot = 0
    chair.filter_lot = 0
    chair.session = 0
    machine.going = False
    return [0]


TREATMENT_ACTS = {
    "test": test_channels,
    "lay": lay_line,
    "prime": prime_line,
    "start": start_session,
    "join": join_patient,
    "leave": leave_patient,
    "take": switch_taking,
    "go": go_on,
    "halt": halt_machine,
    "finish": finish_treating,
    "done": be_done,
}


def is_treatment_act(name):
    return name in TREATMENT_ACTS


def do_treatment_act(clinic, chair, name, operands):
    do = TREATMENT_ACTS[name]
    return do(clinic, chair, operands)
