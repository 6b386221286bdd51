"""Numbers, amounts and pieces: read from words and told in their one form."""

UNITS = {
    "uL": ("volume", 1),
    "mL": ("volume", 1000),
    "L": ("volume", 1000000),
    "s": ("time", 1),
    "min": ("time", 60),
    "h": ("time", 3600),
    "g": ("mass", 1),
    "kg": ("mass", 1000),
    "uL/h": ("rate", 1),
    "mL/h": ("rate", 1000),
    "L/h": ("rate", 1000000),
}

LEAST_UNITS = {"volume": "uL", "time": "s", "mass": "g", "rate": "uL/h"}


def is_number(text):
    return len(text) <= 9 and text.isdigit()


def read_number(text):
    if not is_number(text):
        return None
    return int(text)


def read_signed(text):
    if not text.startswith("-"):
        return read_number(text)
    size = read_number(text[1:])
    if size is None:
        return None
    return -size


def digits_ahead(text):
    length = 0
    while length < len(text) and text[length].isdigit():
        length += 1
    return text[:length]


def worth(whole, fraction, unit, kind):
    if unit not in UNITS or UNITS[unit][0] != kind:
        return None
    scale = 1
    for place in range(len(fraction)):
        scale = scale * 10
    scaled = int(whole + fraction) * UNITS[unit][1]
    if scaled % scale != 0:
        return None
    return scaled // scale


def read_amount(text, kind):
    whole = digits_ahead(text)
    if not is_number(whole):
        return None
    rest = text[len(whole):]
    if not rest.startswith("."):
        return worth(whole, "", rest, kind)
    fraction = digits_ahead(rest[1:])
    if not is_number(fraction):
        return None
    return worth(whole, fraction, rest[1 + len(fraction):], kind)


def read_piece(text):
    parts = text.split(":")
    if len(parts) != 3:
        return None
    seconds = read_amount(parts[0], "time")
    weight = read_number(parts[1])
    most = read_amount(parts[2], "rate")
    if seconds is None or weight is None or most is None:
        return None
    return (seconds, weight, most)


def tell_amount(value, kind):
    return str(value) + LEAST_UNITS[kind]


def tell_piece(piece):
    return ":".join([tell_amount(piece[0], "time"), str(piece[1]), tell_amount(piece[2], "rate")])
