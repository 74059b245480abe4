"""Colours over colours, and those of windows and of the desk."""

GROUND = 0xFFE8E8E8
DESK = 0xFF202030
OPAQUE = 0xFF000000
_SLOT_COLOURS = (0xFFC83C3C, 0xFF3C8C3C, 0xFF3C5AC8, 0xFFB4821E)
_SHIFTS = (24, 16, 8, 0)


def over(colour, below):
    """Return a colour over the one below it."""
    open_part = 255 - (colour >> 24)
    mixed = 0
    for shift in _SHIFTS:
        share = (((below >> shift) & 255) * open_part + 127) // 255
        mixed = mixed * 256 + min(((colour >> shift) & 255) + share, 255)
    return mixed


def slot_colour(slot):
    """Return the colour of the frames of a slot."""
    return _SLOT_COLOURS[slot]
