"""What users' actions look at: all that is shown and was shown, of all programs."""


class Sight:
    """The outputs' areas, the scene, the stack, what programs have, what was painted, and the guard time.

    The paintings and the desks are lists by slots, with None for a slot without a program.
    """

    def __init__(self, areas, scene, stack, paintings, desks, painted, guard):
        self.areas = areas
        self.scene = scene
        self.stack = stack
        self.paintings = paintings
        self.desks = desks
        self.painted = painted
        self.guard = guard


def shown_of(scene, slot, surface):
    """Return the Shown of a surface in a scene, or None if it is not shown."""
    for window in scene:
        if window.slot != slot:
            continue
        rows = list(window.plain)
        for _, granted in window.granted:
            rows.extend(granted)
        for row in rows:
            if row.surface == surface:
                return row
    return None


def is_window_shown(scene, slot, window):
    """Tell whether a window is shown in a scene."""
    return any([(shown.slot, shown.window) == (slot, window) for shown in scene])
