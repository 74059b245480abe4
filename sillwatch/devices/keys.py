"""The state of a program's keys: what is pressed, the locks, and the layout."""

from sillwatch.devices.keymaps import symbol_of

_WEIGHTS = (("shift", 1), ("control", 2), ("alt", 4), ("level", 8), ("super", 16), ("caps", 32), ("number", 64))


class Keys:
    """The pressed keys that a program was told, the locks caps and number, and the number of the layout."""

    def __init__(self):
        # Of each pressed code its symbol, or None without a row.
        self._pressed = {}
        self._locks = []
        self._layout = 0

    def press(self, keymap, code):
        """Press a key, and return what the event `symbol` tells: a name, a text and the modifiers."""
        held = self._held()
        symbol = symbol_of(keymap, self._layout, code, held)
        name, text = self._words(symbol, held)
        self._pressed[code] = symbol
        if symbol is not None and symbol[0] == "lock":
            self._turn(symbol[1], len(keymap.layouts))
        return name, text, self._modifiers()

    def release(self, code):
        """Release a key, and tell whether it was pressed."""
        if code not in self._pressed:
            return False
        del self._pressed[code]
        return True

    def release_all(self):
        """Let no key count as pressed."""
        self._pressed = {}

    def _held(self):
        """Return the modifiers that pressed keys hold."""
        symbols = [symbol for symbol in self._pressed.values() if symbol is not None]
        return [word for kind, word in symbols if kind == "mod"]

    def _words(self, symbol, held):
        """Return the name and the text of a symbol."""
        if symbol is None:
            return "", ""
        kind, word = symbol
        if kind != "character":
            return word, ""
        if "caps" in self._locks:
            # Of other characters than letters these are the characters themselves.
            word = word.lower() if "shift" in held else word.upper()
        if "control" in held or "alt" in held or "super" in held:
            return word, ""
        return word, word

    def _turn(self, lock, layouts):
        if lock == "layout":
            self._layout = (self._layout + 1) % layouts
        elif lock in self._locks:
            self._locks.remove(lock)
        else:
            self._locks.append(lock)

    def _modifiers(self):
        """Return the number of all modifiers and locks that are on."""
        words = self._held() + self._locks
        return sum([weight for word, weight in _WEIGHTS if word in words])
