"""Acts that look after a machine and its guard, and what befalls them."""

from clinicdesk.machine import (has_red, is_joined, is_up, kept_phase, kept_record, let_air_out, lower_latch,
                                power_fails, raise_latch, stuck_channels)


def hang_bag(machine, operands):
    machine.bag = operands[0]
    return [0]


def set_channel(machine, operands):
    machine.stuck[operands[0]] = None if operands[1] == "true" else operands[1]
    return [0]


def set_needle(machine, operands):
    machine.slipped[operands[0]] = operands[1] == "on"
    return [0]


def is_plain_artery(pressure):
    return -300 <= pressure and pressure <= 100


def is_plain_vein(pressure):
    return 10 <= pressure and pressure <= 400


def is_off_centre(guard, place):
    return guard.centre is not None and abs(guard.pressures[place] - guard.centre[place]) > 60


# Both are asked only while there are last pressures.
def is_artery_bad(guard):
    return not is_plain_artery(guard.pressures[0]) or is_off_centre(guard, 0)


def is_vein_bad(guard):
    return not is_plain_vein(guard.pressures[1]) or is_off_centre(guard, 1)


def take_pressures(machine, operands):
    guard = machine.guard
    guard.pressures = (operands[0], operands[1])
    if is_joined(machine) and is_artery_bad(guard):
        raise_latch(guard, 3)
    if is_joined(machine) and is_vein_bad(guard):
        raise_latch(guard, 4)
    return [guard.latches]


def set_centre(machine, operands):
    guard = machine.guard
    if guard.pressures is None:
        return [-3]
    if not is_plain_artery(guard.pressures[0]) or not is_plain_vein(guard.pressures[1]):
        return [-4]
    guard.centre = guard.pressures
    guard.uncentred = 0
    return [0]


def read_leak(machine, operands):
    guard = machine.guard
    if operands[0] >= 1000:
        guard.streak = min(3, guard.streak + 1)
    else:
        guard.streak = 0
    if guard.streak == 3:
        raise_latch(guard, 2)
    return [guard.latches]


def vent_trap(machine, operands):
    return [0, let_air_out(machine)]


def check_channels(machine, operands):
    guard = machine.guard
    stuck = stuck_channels(machine)
    if stuck == 0:
        lower_latch(guard, 1)
        guard.unlike = 0
    return [stuck]


# Whether the cause of a latch that is up is still there.
def is_held_up(machine, latch):
    guard = machine.guard
    if latch == 0:
        return guard.clean < 5
    if latch == 2:
        return guard.streak > 0
    if latch == 3:
        return guard.pressures is not None and is_artery_bad(guard)
    if latch == 4:
        return guard.pressures is not None and is_vein_bad(guard)
    if latch == 5:
        return machine.taking
    if latch == 6:
        return is_joined(machine) and guard.centre is None
    return True


def reset_latch(machine, operands):
    guard = machine.guard
    latch = operands[0]
    if not is_up(guard, latch):
        return [-3]
    if is_held_up(machine, latch):
        return [-4]
    lower_latch(guard, latch)
    if latch == 6:
        guard.uncentred = 0
    return [guard.latches]


def arm_failing(machine, operands):
    machine.armed = operands[0]
    return [0]


def disarm_failing(machine, operands):
    machine.armed = None
    return [0]


def fail_now(machine, operands):
    power_fails(machine)
    return [0]


def bring_back(machine, operands):
    guard = machine.guard
    if machine.power:
        return [-3]
    machine.power = True
    if not has_red(machine):
        guard.still = 0
    return [0, kept_phase(machine), guard.latches, kept_record(machine).counted]


UPKEEP_ACTS = {
    "bag": hang_bag,
    "fault": set_channel,
    "slip": set_needle,
    "press": take_pressures,
    "centre": set_centre,
    "leak": read_leak,
    "vent": vent_trap,
    "check": check_channels,
    "reset": reset_latch,
    "arm": arm_failing,
    "disarm": disarm_failing,
    "fail": fail_now,
    "back": bring_back,
}


def do_upkeep_act(machine, name, operands):
    do = UPKEEP_ACTS[name]
    return do(machine, operands)
