"""A machine: its blood line, guard, path, kept memory, small steps and power."""

from clinicdesk.plans import PlanRecord

LATCH_WORTHS = (1, 2, 4, 8, 16, 32, 64, 128)


class Guard:
    def __init__(self):
        self.readings = []
        self.clean = 0
        self.unlike = 0
        self.streak = 0
        self.uncentred = 0
        self.still = 0
        self.pressures = None
        self.centre = None
        self.latches = 0


# A memory is made once and then only read, so the slots may hold it as it is.
class Memory:
    def __init__(self, phase, plan_record):
        self.phase = phase
        self.plan_record = plan_record


# Sums since the machine was new: of cells that came or went the red, the water and the air.
class Totals:
    def __init__(self):
        self.drawn = [0, 0, 0]
        self.bag_water = 0
        self.air_in = 0
        self.given = [0, 0, 0]
        self.spilt = [0, 0, 0]
        self.drained = [0, 0, 0]
        self.thrown = [0, 0, 0]
        self.taken = 0
        self.vented = 0
        self.moves = 0
        self.lines = 0


class Machine:
    def __init__(self):
        self.slots = [(0, Memory(0, PlanRecord(False, 0, False, ()))), None]
        self.power = True
        self.armed = None
        self.going = False
        self.taking = False
        self.took = 0
        self.good = 0
        self.cells = []
        self.source = 0
        self.sink = 0
        self.haematocrit = 0
        self.bag = 0
        self.trap = 0
        self.stuck = {"A": None, "B": None}
        self.slipped = {"artery": False, "vein": False}
        self.guard = Guard()
        self.path = [0, 0, 0, 0, 0, 0]
        self.wall = 0
        self.totals = Totals()
        fill_with_air(self)


def fill_with_air(machine):
    machine.cells = [(0, 0, 1000) for place in range(16)]
    machine.totals.air_in += 16000
    machine.totals.lines += 1


def add_cell(total, cell):
    total[0] += cell[0]
    total[1] += cell[1]
    total[2] += cell[2]


def is_joined(machine):
    return machine.sink == 1


def has_red(machine):
    for cell in machine.cells:
        if cell[0] > 0:
            return True
    return False


# 1 for a stuck channel A and 2 for a stuck channel B, together.
def stuck_channels(machine):
    first = 0 if machine.stuck["A"] is None else 1
    second = 0 if machine.stuck["B"] is None else 2
    return first + second


def is_latched(machine):
    return machine.guard.latches > 0


def is_sure(machine):
    return machine.guard.clean == 5


def is_up(guard, latch):
    return (guard.latches & LATCH_WORTHS[latch]) > 0


def raise_latch(guard, latch):
    guard.latches = guard.latches | LATCH_WORTHS[latch]


def lower_latch(guard, latch):
    if is_up(guard, latch):
        guard.latches -= LATCH_WORTHS[latch]


def forget_pressures(guard):
    guard.pressures = None
    guard.centre = None
    guard.uncentred = 0


def aim(machine, sink):
    if machine.sink != sink:
        machine.sink = sink
        forget_pressures(machine.guard)


# What a failing of the power and a new line both forget.
def forget_readings(guard):
    guard.readings = []
    guard.clean = 0
    guard.unlike = 0
    guard.streak = 0
    forget_pressures(guard)


def power_fails(machine):
    guard = machine.guard
    machine.power = False
    machine.armed = None
    machine.going = False
    machine.taking = False
    machine.good = 0
    machine.sink = 2
    forget_readings(guard)
    guard.latches = guard.latches & LATCH_WORTHS[7]


# Stands ahead of every small step: no if the power failed, and then the step is not to be done.
def begins_step(machine):
    if machine.armed is None:
        return True
    if machine.armed == 0:
        power_fails(machine)
        return False
    machine.armed -= 1
    return True


def newest_slot(machine):
    first = machine.slots[0]
    second = machine.slots[1]
    if second is None:
        return 0
    if first is None or second[0] > first[0]:
        return 1
    return 0


def kept_memory(machine):
    return machine.slots[newest_slot(machine)][1]


def kept_phase(machine):
    return kept_memory(machine).phase


def kept_record(machine):
    return kept_memory(machine).plan_record


# Gives back whether both small steps were done.
def write_memory(machine, memory):
    newest = newest_slot(machine)
    if not begins_step(machine):
        return False
    machine.slots[1 - newest] = None
    if not begins_step(machine):
        return False
    machine.slots[1 - newest] = (machine.slots[newest][0] + 1, memory)
    return True


def write_phase(machine, phase):
    return write_memory(machine, Memory(phase, kept_record(machine)))


def let_air_out(machine):
    air = machine.trap
    machine.totals.vented += air
    machine.trap = 0
    return air


# The path goes on by one with this new first cell; gives back the cell that left.
def push_path(machine, first):
    left = machine.path.pop()
    machine.path.insert(0, first)
    return left


def flow_path(machine):
    first = (machine.wall + 7) // 8
    machine.wall -= first
    return push_path(machine, first)
