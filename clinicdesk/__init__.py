"""A clinic whole, told by a text of commands."""
