"""What a program asks for: messages looked at, and the faults that are told of them."""

from sillwatch.errors import BadLength, BadPadding, BadText, Fault, ObjectMissing
from sillwatch.objects.owned import DISPLAY
from sillwatch.objects.tables import event_octets, request_opcode, request_row
from sillwatch.octets.fields import read_arguments


class Request:
    """A message that can be served."""

    def __init__(self, number, interface, name, arguments, ends):
        self.number = number
        self.interface = interface
        self.name = name
        self.arguments = arguments
        self.ends = ends


def look_at(objects, message):
    """Return the request of a message (number, opcode, body), or raise the first fault."""
    number, opcode, body = message
    interface = objects.interface_of(number)
    if interface is None:
        raise Fault(DISPLAY, 3, "no such object")
    row = request_row(interface, opcode)
    if row is None:
        raise Fault(number, 4, "no such request")
    name, parts, ends = row
    request = Request(number, interface, name, _arguments(number, parts, body), ends)
    _check_named(objects, request, parts)
    _check_new(objects, request)
    return request


def new_object(request):
    """Return the number and the interface of the object that a request makes, or None."""
    row = request_row(request.interface, request_opcode(request.interface, request.name))
    for part, value in zip(row[1], request.arguments):
        kind, interface = _kind_and_interface(part)
        if kind == "new":
            return value, interface
        if kind == "bound":
            return value[1], value[0]
    return None


def fault_octets(fault):
    """Return the octets of the message that tells a fault."""
    return event_octets(DISPLAY, "display", "error", [fault.number, fault.code, fault.words])


def _kind_and_interface(part):
    """Take apart what the table says of an argument: its kind, and the interface that it names, or an empty text."""
    kind, _, interface = part.partition(" ")
    return kind, interface


def _arguments(number, parts, body):
    """Read the arguments of a message to an object."""
    try:
        return read_arguments([_kind_and_interface(part)[0] for part in parts], body)
    except BadLength:
        raise Fault(number, 2, "bad length") from None
    except BadText:
        raise Fault(number, 2, "bad text") from None
    except BadPadding:
        raise Fault(number, 2, "bad padding") from None
    except ObjectMissing:
        raise Fault(number, 2, "object missing") from None


def _check_named(objects, request, parts):
    """Raise the fault of the first object that is named and not there, or of another interface."""
    for part, value in zip(parts, request.arguments):
        kind, interfaces = _kind_and_interface(part)
        if kind != "object" and (kind != "maybe" or value == 0):
            continue
        interface = objects.interface_of(value)
        if interface is None:
            raise Fault(request.number, 3, "no such object")
        if interface not in interfaces.split("|"):
            raise Fault(request.number, 8, "object of another kind")


def _check_new(objects, request):
    """Raise the fault of a new object that cannot be made."""
    made = new_object(request)
    if made is None:
        return
    if not objects.may_give(made[0]):
        raise Fault(request.number, 6, "number cannot be given")
    if objects.is_full():
        raise Fault(request.number, 7, "too many objects")
