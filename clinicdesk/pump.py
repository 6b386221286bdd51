"""The pump move, and a machine's second."""

from clinicdesk.machine import (Memory, add_cell, begins_step, flow_path, is_joined, kept_memory, raise_latch,
                                write_memory)
from clinicdesk.plans import next_record, plan_length


def bag_cell(machine):
    water = min(1000, machine.bag)
    machine.bag -= water
    machine.totals.bag_water += water
    machine.totals.air_in += 1000 - water
    return (0, water, 1000 - water)


def new_cell(machine):
    if machine.sink == 2:
        return machine.cells[15]
    if machine.source == 1:
        return bag_cell(machine)
    if machine.source == 2 and not machine.slipped["artery"]:
        cell = (machine.haematocrit, 1000 - machine.haematocrit, 0)
        add_cell(machine.totals.drawn, cell)
        return cell
    machine.totals.air_in += 1000
    return (0, 0, 1000)


def let_last_leave(machine):
    last = machine.cells.pop()
    totals = machine.totals
    if machine.sink == 0:
        add_cell(totals.drained, last)
    elif machine.sink == 1 and machine.slipped["vein"]:
        add_cell(totals.spilt, last)
    elif machine.sink == 1:
        add_cell(totals.given, last)


def dialyse(machine, wished):
    cell = machine.cells[4]
    water = min(wished, cell[1])
    machine.cells[4] = (cell[0], cell[1] - water, cell[2])
    machine.took += water
    machine.totals.taken += water


def trap_air(machine):
    cell = machine.cells[8]
    air = min(cell[2], 20000 - machine.trap)
    machine.cells[8] = (cell[0], cell[1], cell[2] - air)
    machine.trap += air


def channel_reading(machine, channel):
    stuck = machine.stuck[channel]
    if stuck is None:
        return machine.cells[11][2]
    return stuck


def judge_reading(guard, reading):
    guard.readings = [reading] + guard.readings[:3]
    if reading < 200 and sum(guard.readings) < 400:
        guard.clean = min(5, guard.clean + 1)
    else:
        guard.clean = 0
        raise_latch(guard, 0)


def judge_likeness(guard, apart):
    if apart > 50:
        guard.unlike = min(2, guard.unlike + 1)
    else:
        guard.unlike = 0
    if guard.unlike == 2:
        raise_latch(guard, 1)


def judge_thickness(machine):
    cell = machine.cells[4]
    if 1000 * cell[0] > 700 * (cell[0] + cell[1]):
        raise_latch(machine.guard, 5)


def judge_centre(machine):
    guard = machine.guard
    if is_joined(machine) and guard.centre is None:
        guard.uncentred = min(10, guard.uncentred + 1)
        if guard.uncentred == 10:
            raise_latch(guard, 6)


def pump_move(machine, wished):
    guard = machine.guard
    cell = new_cell(machine)
    let_last_leave(machine)
    machine.cells.insert(0, cell)
    dialyse(machine, wished)
    trap_air(machine)
    first = channel_reading(machine, "A")
    second = channel_reading(machine, "B")
    judge_reading(guard, max(first, second))
    judge_likeness(guard, abs(first - second))
    judge_thickness(machine)
    judge_centre(machine)
    guard.still = 0
    flow_path(machine)
    machine.totals.moves += 1


# Gives back whether the small step was done.
def step_pump(machine, wished):
    if not begins_step(machine):
        return False
    pump_move(machine, wished)
    return True


def follows_plan(machine, record):
    if not is_joined(machine) or not machine.taking or not record.on:
        return False
    return record.t < plan_length(record.plan)


# Gives back whether all small steps of the second were done.
def machine_second(machine):
    memory = kept_memory(machine)
    record = memory.plan_record
    if not follows_plan(machine, record):
        return step_pump(machine, 0)
    following = next_record(record)
    if not write_memory(machine, Memory(memory.phase, following)):
        return False
    return step_pump(machine, 10 * (following.strokes - record.strokes))
