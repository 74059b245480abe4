"""What outputs show by the words of points 26 and 96 to 99, square by square and pixel by pixel, for tests.

A look is a tuple (width, height, pixels, turn, scale). A layer is a tuple (what, squares, rest): squares of the
layout, and a colour, or for a surface its place and its look, (x, y, look).
"""

import functools

from tests.test_colours import expected_over

DESK = 0xFF202030
GROUND = 0xFFE8E8E8
SLOT_COLOURS = [0xFFC83C3C, 0xFF3C8C3C, 0xFF3C5AC8, 0xFFB4821E]
NONE = frozenset()


def squares(x, y, width, height):
    return frozenset((a, b) for a in range(x, x + width) for b in range(y, y + height))


@functools.cache
def over(colour, below):
    return expected_over(colour, below)


@functools.lru_cache(100)
def turned(width, height, colours, turn):
    """Return the width, the height and a dict (x, y) -> colour of a turned picture."""
    places = {(at % width, at // width): colour for at, colour in enumerate(colours)}
    if turn >= 4:
        places = {(width - 1 - x, y): colour for (x, y), colour in places.items()}
    for _ in range(turn % 4):
        places = {(height - 1 - y, x): colour for (x, y), colour in places.items()}
        width, height = height, width
    return width, height, places


def size_of(look):
    width, height, pixels, turn, scale = look
    width, height, _ = turned(width, height, pixels, turn)
    return width // scale, height // scale


def surface_layer(x, y, look, *clips):
    """Return the layer of a surface that is cut to rectangles."""
    seen = squares(x, y, *size_of(look))
    for clip in clips:
        seen = seen & squares(*clip)
    return "surface", seen, (x, y, look)


def window_layers(slot, frame, plain, granted=()):
    """Return the layers of a window.

    `plain` are rows (x, y, look, clips) of surfaces in places of the layout. `granted` are rows (place, surfaces) of
    popups with a grant in one output that has all of their places.
    """
    x, y, width, height = frame
    inside = (x + 2, y + 10, width - 4, height - 12)
    colour = SLOT_COLOURS[slot]
    layers = [("frame", squares(*frame), colour), ("inside", squares(*inside), GROUND)]
    layers += [surface_layer(*row[:3], inside, *row[3]) for row in plain]
    borders, grounds = NONE, NONE
    for (px, py, wide, high), _ in granted:
        borders |= squares(px - 2, py - 2, wide + 4, high + 4)
        grounds |= squares(px, py, wide, high)
    layers += [("border", borders, colour), ("ground", grounds, GROUND)]
    for place, rows in granted:
        layers += [surface_layer(*row, place) for row in rows]
    return layers


def differing_squares(before, after):
    found = set()
    for at in range(max(len(before), len(after))):
        old, new = before[at:at + 1], after[at:at + 1]
        if old != new:
            for layer in old + new:
                found |= layer[1]
    return found


def picture(output, layers):
    """Return the colours of the picture of an output, not turned, row by row."""
    n = output.scale
    turns = {layer[2][2]: turned(*layer[2][2][:4])[2] for layer in layers if layer[0] == "surface"}
    seen = {unit: [layer for layer in layers if unit in layer[1]] for unit in squares(*output.area())}
    colours = []
    for py in range(output.height * n):
        for px in range(output.width * n):
            colour = DESK
            for what, _, rest in seen[output.x + px // n, output.y + py // n]:
                if what != "surface":
                    colour = over(rest, colour)
                    continue
                x, y, look = rest
                dx, dy = px - (x - output.x) * n, py - (y - output.y) * n
                s = look[4]
                place = (s * (2 * dx + 1) // (2 * n), s * (2 * dy + 1) // (2 * n))
                colour = over(turns[look].get(place, 0), colour)
            colours.append(colour)
    return colours


def screen(output, layers):
    """Return the width, the height and the colours of what a screen is given, row by row."""
    n = output.scale
    width, height, places = turned(output.width * n, output.height * n, tuple(picture(output, layers)), output.turn)
    return width, height, [places[x, y] for y in range(height) for x in range(width)]
