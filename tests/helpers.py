"""What several tests use."""

from sillwatch.errors import Fault
from sillwatch.objects.requests import Request


def fault_of(call, *arguments):
    """Return the fields of the fault that a call raises, or None if it raises none."""
    try:
        call(*arguments)
    except Fault as fault:
        return fault.number, fault.code, fault.words
    return None


def ask(number, interface, name, *arguments, ends=False):
    """Return a request."""
    return Request(number, interface, name, list(arguments), ends)


def error_class_of(call, *arguments):
    """Return the very class of the ValueError that a call raises, or None if it raises none."""
    try:
        call(*arguments)
    except ValueError as error:
        return type(error)
    return None
