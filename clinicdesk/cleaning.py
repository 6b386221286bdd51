"""Acts that clean a machine: disinfect, rinse, clear."""

from clinicdesk.machine import begins_step, flow_path, kept_phase, push_path, write_phase


# Gives back whether the power held; a machine that is in the phase already has nothing to write.
def enter_phase(machine, phase):
    return kept_phase(machine) == phase or write_phase(machine, phase)


def disinfect_once(machine):
    push_path(machine, 1000)
    machine.wall = min(2000, machine.wall + 20)
    machine.good = 0


def disinfect_path(machine, operands):
    phase = kept_phase(machine)
    if phase == 2 or phase == 3 or phase == 4:
        return [-3]
    if not enter_phase(machine, 6):
        return [1]
    for step in range(operands[0]):
        if not begins_step(machine):
            return [1]
        disinfect_once(machine)
    return [0]


def rinse_once(machine):
    if flow_path(machine) < 5:
        machine.good = min(6, machine.good + 1)
    else:
        machine.good = 0


def rinse_path(machine, operands):
    phase = kept_phase(machine)
    if phase != 6 and phase != 7:
        return [-3]
    if not enter_phase(machine, 7):
        return [1]
    for step in range(operands[0]):
        if not begins_step(machine):
            return [1]
        rinse_once(machine)
    return [0, machine.good]


def clear_machine(machine, operands):
    if kept_phase(machine) != 7:
        return [-3]
    if machine.good < 6:
        return [-4]
    if not write_phase(machine, 0):
        return [1]
    return [0]


CLEANING_ACTS = {"disinfect": disinfect_path, "rinse": rinse_path, "clear": clear_machine}


def is_cleaning_act(name):
    return name in CLEANING_ACTS


def do_cleaning_act(machine, name, operands):
    do = CLEANING_ACTS[name]
    return do(machine, operands)
