"""The desk: what is looked at first of every command, and what is written down."""

from clinicdesk.asking import answer_question, is_question
from clinicdesk.cleaning import do_cleaning_act, is_cleaning_act
from clinicdesk.holdings import chair_at, mark_since
from clinicdesk.office import do_office_command, is_office_command
from clinicdesk.shapes import keeps_ranges, one_form, read_command
from clinicdesk.signs import bytes_of, words_of
from clinicdesk.treatment import do_treatment_act, is_treatment_act
from clinicdesk.upkeep import do_upkeep_act


def carry_out_act(clinic, chair, name, operands):
    if is_treatment_act(name):
        return do_treatment_act(clinic, chair, name, operands)
    if is_cleaning_act(name):
        return do_cleaning_act(chair.machine, name, operands)
    return do_upkeep_act(chair.machine, name, operands)


def do_act(clinic, command):
    chair = chair_at(clinic, command.operands[0])
    if not chair.machine.power and command.name != "back":
        return [-2]
    answer = carry_out_act(clinic, chair, command.name, command.operands[1:])
    # A refused act, go and halt change no latch: for them this look changes nothing.
    mark_since(clinic, chair)
    return answer


def carry_out(clinic, command):
    if is_office_command(command.name):
        return do_office_command(clinic, command)
    return do_act(clinic, command)


def do_written(clinic, command):
    line = bytes_of(one_form(command) + "\n")
    if len(clinic.record) + len(line) > 20000:
        return [-99]
    answer = carry_out(clinic, command)
    if answer[0] >= 0:
        clinic.record.extend(line)
    return answer


def do_command(clinic, command):
    if not keeps_ranges(command):
        return [-1]
    if is_question(command.name):
        return answer_question(clinic, command)
    if command.name == "book":
        clinic.record = []
        return [0]
    return do_written(clinic, command)


def do_line(clinic, line):
    words = words_of(line)
    if len(words) == 0 or words[0].startswith("#"):
        return []
    command = read_command(words)
    if command is None:
        return [-100]
    return do_command(clinic, command)
