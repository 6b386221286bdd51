"""Bytes, the signs they stand for, and the words of a line."""

# The signs of the bytes 32 to 126. No command holds a percent sign, so "?" stands at its place as well.
SIGNS = " !\"#$?&'()*+,-./0123456789:;<=>?@ABCDEFGHIJKLMNOPQRSTUVWXYZ[\\]^_`abcdefghijklmnopqrstuvwxyz{|}~"


# No command holds "?", so it may stand for every byte that no command can hold.
def sign_of(byte):
    if byte < 32 or byte > 126:
        return "?"
    return SIGNS[byte - 32]


def words_of(line):
    text = "".join([sign_of(byte) for byte in line])
    return [word for word in text.split(" ") if word != ""]


def bytes_of(text):
    return [ord(sign) for sign in text]
