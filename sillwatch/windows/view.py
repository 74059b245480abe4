"""What a program's requests may look at."""


class View:
    """The areas of the outputs, a program's own windows in the stack, its focus, its grant and its kept frames."""

    def __init__(self, areas, own_windows, focus, grant, kept):
        self.areas = areas
        self.own_windows = own_windows
        self.focus = focus
        self.grant = grant
        self.kept = kept
