"""What surfaces show, and the changes that commits say.

Contents and changes are never changed themselves: who keeps one may keep it.
"""


class Content:
    """What a surface shows: its picture, how that is turned and scaled, where it hears, and the surfaces in it."""

    def __init__(self, picture, turn, scale, hears, order, places):
        self.picture = picture
        self.turn = turn
        self.scale = scale
        self.hears = hears
        self.order = order
        self.places = places


class Change:
    """What a commit says: pairs (says, value), values that are None where nothing is said, and callbacks."""

    def __init__(self, attached, hearing, turn, scale, order, places, callbacks):
        self.attached = attached
        self.hearing = hearing
        self.turn = turn
        self.scale = scale
        self.order = order
        self.places = places
        self.callbacks = callbacks


def empty_content(number):
    """Return the content of a new surface."""
    return Content(None, 0, 1, None, [number], {})


def laid_over(first, second):
    """Return the change that says what both say, the second over the first, which may be None."""
    if first is None:
        first = Change((False, None), (False, None), None, None, None, None, [])
    return Change(
        second.attached if second.attached[0] else first.attached,
        second.hearing if second.hearing[0] else first.hearing,
        _latest(first.turn, second.turn),
        _latest(first.scale, second.scale),
        _copied_list(_latest(first.order, second.order)),
        _copied_dict(_latest(first.places, second.places)),
        first.callbacks + second.callbacks,
    )


def changed_content(content, change):
    """Return the new content."""
    return Content(
        change.attached[1] if change.attached[0] else content.picture,
        _latest(content.turn, change.turn),
        _latest(content.scale, change.scale),
        _copied_list(change.hearing[1] if change.hearing[0] else content.hears),
        _copied_list(_latest(content.order, change.order)),
        _copied_dict(_latest(content.places, change.places)),
    )


def content_size(content):
    """Return the width and the height of a content in units, or None without a picture."""
    if content.picture is None:
        return None
    width, height = content.picture.width, content.picture.height
    if content.turn % 2 == 1:
        width, height = height, width
    return width // content.scale, height // content.scale


def scale_fits(content):
    """Tell whether the scale divides both sides of the picture, if there is one."""
    picture = content.picture
    if picture is None:
        return True
    return picture.width % content.scale == 0 and picture.height % content.scale == 0


def content_without(content, number):
    """Return the content without a surface in it."""
    order, places = _others(content.order, content.places, number)
    return Content(content.picture, content.turn, content.scale, content.hears, order, places)


def change_without(change, number):
    """Return the change without what it says of a surface in another one."""
    order, places = _others(change.order, change.places, number)
    return Change(
        change.attached, change.hearing, change.turn, change.scale, order, places, list(change.callbacks)
    )


def picture_pixels(picture):
    """Return how many pixels a picture has; None has none."""
    return 0 if picture is None else picture.width * picture.height


def _latest(before, said):
    return before if said is None else said


def _copied_list(values):
    return None if values is None else list(values)


def _copied_dict(values):
    return None if values is None else dict(values)


def _others(order, places, number):
    kept_order = [other for other in order if other != number]
    return kept_order, {other: places[other] for other in places if other != number}
