"""The requests of display and registry, and what is told of the outputs."""

from sillwatch.errors import Fault
from sillwatch.outputs import output_numbered

_GLOBALS = (
    (1, "memory"),
    (2, "compositor"),
    (3, "joiner"),
    (4, "windows"),
    (5, "seat"),
    (6, "transfer"),
)
_FIRST_OUTPUT = 16


def global_rows(outputs):
    """Return the rows (number, interface) of all globals that a registry tells."""
    return list(_GLOBALS) + [(_global_number(output), "output") for output in outputs]


def bound_interface(number, name):
    """Tell whether an object with the interface can be bound under the number."""
    # An output may be bound before it is there, so its number is not looked at.
    return name == "output" or (number, name) in _GLOBALS


class Registries:
    """The registries and the output objects of one program."""

    def __init__(self):
        self._registries = []
        # Of each output object the number of its output, or None if there was none when it was bound.
        self._owners = {}

    def serve(self, request, outputs, time, reply):
        """Serve a request of display or registry."""
        if request.interface == "display" and request.name == "sync":
            callback = request.arguments[0]
            reply.tell(callback, "callback", "done", [time % 2 ** 32])
            reply.end(callback)
        elif request.interface == "display" and request.name == "registry":
            self._open_registry(request.arguments[0], outputs, reply)
        elif request.interface == "registry" and request.name == "bind":
            self._bind(request, outputs, reply)

    def changed(self, before, after, reply):
        """Tell what changes when the outputs before become those after."""
        gone = _missing_in(after, before)
        new = _missing_in(before, after)
        for registry in self._registries:
            for output in gone:
                reply.tell(registry, "registry", "gone", [_global_number(output)])
            for output in new:
                reply.tell(registry, "registry", "there", [_global_number(output), "output"])
        for number, owner in self._owners.items():
            old = output_numbered(before, owner)
            present = output_numbered(after, owner)
            if old is not None and present is not None and _size_row(old) != _size_row(present):
                _tell_size(number, present, reply)

    def forget(self, number):
        """Forget a registry or an output object that has ended."""
        if number in self._registries:
            self._registries.remove(number)
        if number in self._owners:
            del self._owners[number]

    def output_of(self, number):
        """Return the number of the output to which an output object belongs, or None."""
        return self._owners.get(number)

    def _open_registry(self, number, outputs, reply):
        self._registries.append(number)
        for row in global_rows(outputs):
            reply.tell(number, "registry", "there", list(row))

    def _bind(self, request, outputs, reply):
        place, bound = request.arguments
        name, number = bound
        if not bound_interface(place, name):
            raise Fault(request.number, 8, "no such global")
        if name != "output":
            return
        output = output_numbered(outputs, place - _FIRST_OUTPUT)
        self._owners[number] = None if output is None else output.number
        if output is not None:
            _tell_size(number, output, reply)


def _global_number(output):
    return _FIRST_OUTPUT + output.number


def _missing_in(outputs, others):
    """Return those of the other outputs whose number none of the outputs has."""
    return [other for other in others if output_numbered(outputs, other.number) is None]


def _size_row(output):
    return [output.width, output.height, output.scale, output.turn]


def _tell_size(number, output, reply):
    reply.tell(number, "output", "size", _size_row(output))
