"""Commands of the clinic: people, orders, lots, water, seats and time."""

from clinicdesk.holdings import Lot, Order, Patient, chair_at, is_seated, is_too_much, is_treating_or_returning
from clinicdesk.machine import kept_record
from clinicdesk.passing import pass_second
from clinicdesk.plans import plan_length, weights


def know_patient(clinic, operands):
    number = operands[0]
    if is_seated(clinic, number):
        return [-3]
    patient = clinic.patients.get(number)
    if patient is None:
        patient = Patient()
        clinic.patients[number] = patient
    patient.weight = operands[1]
    patient.haematocrit = operands[2]
    patient.marked = operands[3] == "marked"
    return [0]


def know_staff(clinic, operands):
    if operands[0] in clinic.staff:
        return [-3]
    clinic.staff[operands[0]] = operands[1]
    return [0]


def write_order(clinic, operands):
    number = operands[0]
    plan = tuple(operands[5])
    if number in clinic.orders:
        return [-3]
    if operands[1] not in clinic.patients:
        return [-4]
    if weights(plan, plan_length(plan)) == 0:
        return [-5]
    clinic.orders[number] = Order(operands[1], operands[2], operands[3], operands[4] == "catch", plan)
    return [0]


def sign_order(clinic, operands):
    order = clinic.orders.get(operands[0])
    if order is None:
        return [-3]
    role = clinic.staff.get(operands[1])
    if role is None:
        return [-4]
    if order.signers[role] > 0:
        return [-5]
    if order.ended:
        return [-6]
    if is_too_much(clinic, order):
        return [-7]
    order.signers[role] = operands[1]
    return [0]


def end_order(clinic, operands):
    order = clinic.orders.get(operands[0])
    if order is None:
        return [-3]
    if order.ended:
        return [-4]
    order.ended = True
    return [0]


def receive_lot(clinic, operands):
    if operands[0] in clinic.lots:
        return [-3]
    clinic.lots[operands[0]] = Lot(operands[1], operands[2], operands[3])
    return [0]


def has_lot(session, number):
    return session.line_lot == number or session.filter_lot == number


def recall_lot(clinic, operands):
    number = operands[0]
    lot = clinic.lots.get(number)
    if lot is None:
        return [-3]
    if lot.recalled:
        return [-4]
    lot.recalled = True
    return [0] + [place for place, session in enumerate(clinic.sessions, start=1) if has_lot(session, number)]


def note_water(clinic, operands):
    clinic.water_test = operands[0]
    clinic.water_clock = clinic.clock
    return [0]


def seat_patient(clinic, operands):
    number = operands[0]
    chair = chair_at(clinic, operands[1])
    if number not in clinic.patients:
        return [-3]
    if chair.patient > 0:
        return [-4]
    if is_seated(clinic, number):
        return [-5]
    if clinic.patients[number].marked != (chair.number == 4):
        return [-6]
    chair.patient = number
    return [0]


def unseat_patient(clinic, operands):
    chair = chair_at(clinic, operands[0])
    if chair.patient == 0:
        return [-3]
    if is_treating_or_returning(chair.machine):
        return [-4]
    chair.patient = 0
    return [0]


def tick(clinic, operands):
    if clinic.clock + operands[0] > 1000000000:
        return [-3]
    for second in range(operands[0]):
        pass_second(clinic)
    told = [0, clinic.clock]
    for chair in clinic.chairs:
        machine = chair.machine
        told.extend([machine.guard.latches, kept_record(machine).counted])
    return told


OFFICE_COMMANDS = {
    "patient": know_patient,
    "staff": know_staff,
    "order": write_order,
    "sign": sign_order,
    "end": end_order,
    "lot": receive_lot,
    "recall": recall_lot,
    "water": note_water,
    "seat": seat_patient,
    "unseat": unseat_patient,
    "tick": tick,
}


def is_office_command(name):
    return name in OFFICE_COMMANDS


def do_office_command(clinic, command):
    do = OFFICE_COMMANDS[command.name]
    return do(clinic, command.operands)
