"""Colours over colours, and those of windows and of the desk."""

from sillwatch.surfaces.pictures import CLEAR

GROUND = 0xFFE8E8E8
DESK = 0xFF202030
OPAQUE = 0xFF000000
_SLOT_COLOURS = (0xFFC83C3C, 0xFF3C8C3C, 0xFF3C5AC8, 0xFFB4821E)


def over(colour, below):
    """Return a colour over the one below it."""
    if colour >= OPAQUE:
        return colour
    if colour == CLEAR:
        return below
    opacity = colour >> 24
    open_part = 255 - opacity
    # The opacity of both cannot be more than 255.
    opacity += ((below >> 24) * open_part + 127) // 255
    red = (colour >> 16 & 255) + ((below >> 16 & 255) * open_part + 127) // 255
    green = (colour >> 8 & 255) + ((below >> 8 & 255) * open_part + 127) // 255
    blue = (colour & 255) + ((below & 255) * open_part + 127) // 255
    if red > 255:
        red = 255
    if green > 255:
        green = 255
    if blue > 255:
        blue = 255
    return opacity << 24 | red << 16 | green << 8 | blue


def slot_colour(slot):
    """Return the colour of the frames of a slot."""
    return _SLOT_COLOURS[slot]
