"""The shapes of all commands: how they are read, their ranges, and their one form."""

from clinicdesk.amounts import read_amount, read_number, read_piece, read_signed, tell_amount, tell_piece

# For each command the slots behind its name. A slot is its kind, then its range or its choices.
SHAPES = {
    "patient": (("number", 1, 8), ("mass", 10000, 300000), ("number", 0, 1000), ("choice", "marked", "plain")),
    "staff": (("number", 1, 8), ("choice", "doctor", "nurse")),
    "order": (("number", 1, 16), ("number", 1, 8), ("volume", 0, 100000000), ("times", 1, 99),
              ("choice", "catch", "plain"), ("pieces", 1, 8)),
    "sign": (("number", 1, 16), ("number", 1, 8)),
    "end": (("number", 1, 16),),
    "lot": (("number", 1, 16), ("choice", "line", "filter"), ("number", 1, 1000), ("number", 0, 3650)),
    "recall": (("number", 1, 16),),
    "water": (("choice", "ok", "bad"),),
    "seat": (("number", 1, 8), ("number", 1, 4)),
    "unseat": (("number", 1, 4),),
    "tick": (("number", 1, 600),),
    "book": (),
    "test": (("number", 1, 4),),
    "lay": (("number", 1, 4),),
    "prime": (("number", 1, 4), ("number", 1, 100), ("choice", "drain", "round")),
    "start": (("number", 1, 4), ("number", 1, 16)),
    "join": (("number", 1, 4),),
    "leave": (("number", 1, 4),),
    "take": (("number", 1, 4), ("choice", "on", "off")),
    "go": (("number", 1, 4),),
    "halt": (("number", 1, 4),),
    "finish": (("number", 1, 4),),
    "done": (("number", 1, 4),),
    "disinfect": (("number", 1, 4), ("number", 1, 100)),
    "rinse": (("number", 1, 4), ("number", 1, 100)),
    "clear": (("number", 1, 4),),
    "bag": (("number", 1, 4), ("volume", 0, 5000000)),
    "fault": (("number", 1, 4), ("choice", "A", "B"), ("stuck", 0, 1000)),
    "slip": (("number", 1, 4), ("choice", "artery", "vein"), ("choice", "on", "off")),
    "press": (("number", 1, 4), ("signed", -1000, 1000), ("signed", -1000, 1000)),
    "centre": (("number", 1, 4),),
    "leak": (("number", 1, 4), ("number", 0, 1000000)),
    "vent": (("number", 1, 4),),
    "check": (("number", 1, 4),),
    "reset": (("number", 1, 4), ("number", 0, 7)),
    "arm": (("number", 1, 4), ("number", 0, 1000000)),
    "disarm": (("number", 1, 4),),
    "fail": (("number", 1, 4),),
    "back": (("number", 1, 4),),
    "ask now": (),
    "ask chair": (("number", 1, 4),),
    "ask guard": (("number", 1, 4),),
    "ask plant": (("number", 1, 4),),
    "ask ledger": (("number", 1, 4),),
    "ask patient": (("number", 1, 8),),
    "ask order": (("number", 1, 16),),
    "ask lot": (("number", 1, 16),),
    "ask session": (("number", 1, 64),),
    "ask board": (),
}


class Command:
    def __init__(self, name, operands):
        self.name = name
        self.operands = operands


def read_choice(slot, word):
    for choice in slot[1:]:
        if word == choice:
            return word
    return None


def read_times(word):
    if not word.startswith("x"):
        return None
    return read_number(word[1:])


def read_pieces(words):
    pieces = []
    for word in words:
        piece = read_piece(word)
        if piece is None:
            return None
        pieces.append(piece)
    return pieces


def read_stuck(word):
    if word == "true":
        return word
    return read_number(word)


# What stands in a slot of pieces is a list of words, in any other slot one word.
def read_operand(slot, word):
    kind = slot[0]
    if kind == "number":
        return read_number(word)
    if kind == "choice":
        return read_choice(slot, word)
    if kind == "signed":
        return read_signed(word)
    if kind == "times":
        return read_times(word)
    if kind == "stuck":
        return read_stuck(word)
    if kind == "pieces":
        return read_pieces(word)
    return read_amount(word, kind)


def ends_in_pieces(shape):
    return len(shape) > 0 and shape[-1][0] == "pieces"


def read_operands(shape, words):
    told = list(words)
    if ends_in_pieces(shape):
        told = words[:len(shape) - 1] + [words[len(shape) - 1:]]
    if len(told) != len(shape):
        return None
    operands = []
    for slot, word in zip(shape, told):
        operand = read_operand(slot, word)
        if operand is None:
            return None
        operands.append(operand)
    return operands


def read_command(words):
    if len(words) == 0:
        return None
    name = words[0]
    rest = words[1:]
    if name == "ask" and len(rest) > 0:
        name = "ask " + rest[0]
        rest = rest[1:]
    if name not in SHAPES:
        return None
    operands = read_operands(SHAPES[name], rest)
    if operands is None:
        return None
    return Command(name, operands)


def lies_within(value, low, high):
    return low <= value and value <= high


def is_good_piece(piece):
    return lies_within(piece[0], 1, 28800) and lies_within(piece[1], 0, 1000) and lies_within(piece[2], 0, 1800000)


def is_good_plan(pieces, fewest, most):
    if not lies_within(len(pieces), fewest, most):
        return False
    if not all([is_good_piece(piece) for piece in pieces]):
        return False
    return sum([piece[0] for piece in pieces]) <= 28800


def is_in_range(slot, operand):
    if slot[0] == "choice" or operand == "true":
        return True
    if slot[0] == "pieces":
        return is_good_plan(operand, slot[1], slot[2])
    return lies_within(operand, slot[1], slot[2])


def keeps_ranges(command):
    shape = SHAPES[command.name]
    return all([is_in_range(slot, operand) for slot, operand in zip(shape, command.operands)])


def tell_operand(slot, operand):
    kind = slot[0]
    if kind == "volume" or kind == "mass":
        return tell_amount(operand, kind)
    if kind == "times":
        return "x" + str(operand)
    if kind == "pieces":
        return " ".join([tell_piece(piece) for piece in operand])
    return str(operand)


def one_form(command):
    shape = SHAPES[command.name]
    told = [tell_operand(slot, operand) for slot, operand in zip(shape, command.operands)]
    return " ".join([command.name] + told)
