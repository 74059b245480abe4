"""What several tests use."""

from sillwatch.errors import Fault
from sillwatch.objects.requests import Request
from sillwatch.objects.tables import event_row
from sillwatch.octets.fields import read_arguments
from sillwatch.octets.messages import cut_messages


def fault_of(call, *arguments):
    """Return the fields of the fault that a call raises, or None if it raises none."""
    try:
        call(*arguments)
    except Fault as fault:
        return fault.number, fault.code, fault.words
    return None


def ask(number, interface, name, *arguments, ends=False):
    """Return a request."""
    return Request(number, interface, name, list(arguments), ends)


def error_class_of(call, *arguments):
    """Return the very class of the ValueError that a call raises, or None if it raises none."""
    try:
        call(*arguments)
    except ValueError as error:
        return type(error)
    return None


def rows_of(reply, kinds):
    """Return what a reply tells as tuples (object, event, values ..), for a dict of interfaces by numbers."""
    rows = []
    for octets in reply.told:
        messages, rest, fault = cut_messages(octets)
        assert len(messages) == 1 and rest == [] and not fault
        number, opcode, body = messages[0]
        name, event_kinds = event_row(kinds[number], opcode)
        rows.append((number, name, *read_arguments(list(event_kinds), body)))
    return rows
