"""What the clinic holds: patients, staff, orders, lots, sessions and chairs."""

from clinicdesk.machine import Machine, is_latched, kept_phase


class Patient:
    def __init__(self):
        self.weight = 0
        self.haematocrit = 0
        self.marked = False
        self.drawn = 0
        self.given = 0


class Order:
    def __init__(self, patient, goal, good_for, catching, plan):
        self.patient = patient
        self.goal = goal
        self.good_for = good_for
        self.catching = catching
        self.plan = plan
        self.signers = {"doctor": 0, "nurse": 0}
        self.ended = False
        self.begun = 0


class Lot:
    def __init__(self, kind, received, day):
        self.kind = kind
        self.received = received
        self.left = received
        self.day = day
        self.recalled = False


class Session:
    def __init__(self, patient, order, chair, clock, line_lot, filter_lot):
        self.patient = patient
        self.order = order
        self.chair = chair
        self.clock = clock
        self.line_lot = line_lot
        self.filter_lot = filter_lot
        self.taken = 0


class Ledger:
    def __init__(self):
        self.airs = []
        self.most = 0
        self.four = 0


# Of patient, session and lots the chair holds the numbers, 0 for none.
class Chair:
    def __init__(self, number):
        self.number = number
        self.patient = 0
        self.machine = Machine()
        self.line_lot = 0
        self.filter_lot = 0
        self.session = 0
        self.ledger = Ledger()
        self.since = None


# Session N stands at the place N - 1, chair C at the place C - 1.
class Clinic:
    def __init__(self):
        self.clock = 0
        self.water_test = None
        self.water_clock = 0
        self.patients = {}
        self.staff = {}
        self.orders = {}
        self.lots = {}
        self.sessions = []
        self.record = []
        self.chairs = [Chair(number) for number in range(1, 5)]


def today(clinic):
    return clinic.clock // 86400


def chair_at(clinic, number):
    return clinic.chairs[number - 1]


def is_seated(clinic, patient):
    return any([chair.patient == patient for chair in clinic.chairs])


def is_in_force(order):
    return order.signers["doctor"] > 0 and order.signers["nurse"] > 0 and not order.ended


# Whether the order asks for more than the patient's weight, as it is now, allows.
def is_too_much(clinic, order):
    weight = clinic.patients[order.patient].weight
    if order.goal > 60 * weight:
        return True
    return any([piece[2] > 13 * weight for piece in order.plan])


def is_usable(clinic, lot):
    return not lot.recalled and today(clinic) <= lot.day


def is_water_good(clinic):
    return clinic.water_test == "ok" and clinic.clock - clinic.water_clock <= 14400


def is_allowed(clinic, chair):
    if chair.session == 0 or not is_water_good(clinic):
        return False
    session = clinic.sessions[chair.session - 1]
    return is_in_force(clinic.orders[session.order])


def is_treating_or_returning(machine):
    phase = kept_phase(machine)
    return phase == 3 or phase == 4


def mark_since(clinic, chair):
    if not is_latched(chair.machine):
        chair.since = None
    elif chair.since is None:
        chair.since = clinic.clock
