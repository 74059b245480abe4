"""The interfaces of objects, with their requests and events."""

from sillwatch.octets.messages import encode_message

# Of each interface, in order: the rows (name, arguments, ends) of its requests.
_REQUESTS = {
    "display": (
        ("sync", ("new callback",), False),
        ("registry", ("new registry",), False),
    ),
    "callback": (),
    "registry": (
        ("bind", ("uint", "bound"), False),
    ),
    "memory": (
        ("buffer", ("new buffer", "uint", "uint"), False),
        ("destroy", (), True),
    ),
    "buffer": (
        ("write", ("uint", "octets"), False),
        ("fill", ("int", "int", "uint", "uint", "uint"), False),
        ("destroy", (), True),
    ),
    "compositor": (
        ("surface", ("new surface",), False),
        ("region", ("new region",), False),
        ("destroy", (), True),
    ),
    "region": (
        ("add", ("int", "int", "uint", "uint"), False),
        ("subtract", ("int", "int", "uint", "uint"), False),
        ("destroy", (), True),
    ),
    "surface": (
        ("attach", ("maybe buffer",), False),
        ("frame", ("new callback",), False),
        ("hears", ("maybe region",), False),
        ("commit", (), False),
        ("turn", ("uint",), False),
        ("scale", ("uint",), False),
        ("destroy", (), True),
    ),
    "joiner": (
        ("join", ("new sub", "object surface", "object surface"), False),
        ("destroy", (), True),
    ),
    "sub": (
        ("place", ("int", "int"), False),
        ("above", ("object surface",), False),
        ("below", ("object surface",), False),
        ("sync", (), False),
        ("desync", (), False),
        ("destroy", (), True),
    ),
    "output": (
        ("destroy", (), True),
    ),
    "windows": (
        ("window", ("new window", "object surface"), False),
        ("popup", (
            "new popup", "object surface", "object window|popup",
            "int", "int", "int", "int", "int", "int", "int", "int",
            "uint", "uint", "int", "int", "uint", "uint",
        ), False),
    ),
    "window": (
        ("destroy", (), True),
        ("title", ("text",), False),
        ("name", ("text",), False),
        ("least", ("uint", "uint"), False),
        ("largest", ("uint", "uint"), False),
        ("ack", ("uint",), False),
        ("map_with", ("uint",), False),
        ("smaller", ("uint", "uint"), False),
        ("grow", ("uint", "uint", "uint"), False),
        ("raise", ("uint",), False),
        ("maximize", ("uint",), False),
        ("restore", (), False),
    ),
    "popup": (
        ("destroy", (), True),
        ("place", (
            "int", "int", "int", "int", "int", "int", "int", "int",
            "uint", "uint", "int", "int", "uint",
        ), False),
    ),
    "seat": (
        ("pointer", ("new pointer",), False),
        ("keyboard", ("new keyboard",), False),
    ),
    "pointer": (
        ("destroy", (), True),
        ("cursor", ("uint",), False),
    ),
    "keyboard": (
        ("destroy", (), True),
    ),
    "transfer": (
        ("source", ("new source",), False),
        ("give", ("object source", "uint", "uint"), False),
        ("drag", ("object source", "uint"), False),
        ("send", ("text", "octets"), False),
        ("unsend", ("text",), False),
        ("ask", ("new capture", "object output", "int", "int", "uint", "uint"), False),
        ("fetch", ("new fetch", "text"), False),
        ("watch", ("new watch", "text"), False),
        ("destroy", (), True),
    ),
    "source": (
        ("write", ("text", "octets"), False),
        ("destroy", (), True),
    ),
    "offer": (
        ("read", ("text", "uint", "uint"), False),
        ("destroy", (), True),
    ),
    "capture": (
        ("read", ("uint", "uint"), False),
        ("destroy", (), True),
    ),
    "fetch": (
        ("read", ("uint", "uint"), False),
        ("destroy", (), True),
    ),
    "watch": (
        ("destroy", (), True),
    ),
}

# Of each interface that has events: their rows (name, kinds).
_EVENTS = {
    "display": (("error", ("uint", "uint", "text")), ("removed", ("uint",))),
    "callback": (("done", ("uint",)),),
    "registry": (("there", ("uint", "text")), ("gone", ("uint",))),
    "buffer": (("release", ()),),
    "output": (("size", ("uint", "uint", "uint", "uint")),),
    "window": (
        ("configure", ("uint", "uint", "uint", "uint")),
        ("close", ()),
        ("output", ("uint",)),
        ("left", ("uint",)),
    ),
    "popup": (("placed", ("int", "int", "uint", "uint")), ("done", ())),
    "pointer": (
        ("enter", ("object", "int", "int")),
        ("leave", ("object",)),
        ("motion", ("int", "int", "uint")),
        ("button", ("uint", "uint", "uint", "uint")),
        ("axis", ("int", "int", "uint")),
    ),
    "keyboard": (
        ("keymap", ("text",)),
        ("enter", ("object",)),
        ("leave", ("object",)),
        ("key", ("uint", "uint", "uint", "uint")),
        ("symbol", ("text", "text", "uint")),
    ),
    "transfer": (
        ("offer", ("new", "uint")),
        ("hover", ("object", "int", "int")),
        ("hover_kind", ("text",)),
        ("moved", ("uint", "int", "int")),
        ("away", ()),
        ("ended", ()),
    ),
    "offer": (("kind", ("text", "uint")), ("part", ("text", "uint", "octets"))),
    "capture": (("allowed", ("uint", "uint")), ("refused", ()), ("rows", ("uint", "octets"))),
    "fetch": (("changed", ("uint",)), ("gone", ()), ("part", ("uint", "octets"))),
    "watch": (("there", ()), ("gone", ())),
}


def interface_names():
    """Return the names of all interfaces, in order."""
    return list(_REQUESTS)


def request_row(interface, opcode):
    """Return the row (name, arguments, ends) of a request, or None if there is none."""
    return _row_at(_REQUESTS.get(interface, ()), opcode)


def request_opcode(interface, name):
    """Return the opcode of a request, which exists."""
    return _opcode_of(_REQUESTS[interface], name)


def event_row(interface, opcode):
    """Return the row (name, kinds) of an event, or None if there is none."""
    return _row_at(_EVENTS.get(interface, ()), opcode)


def event_octets(number, interface, name, values):
    """Return the octets of the message that tells an event, which exists."""
    rows = _EVENTS[interface]
    opcode = _opcode_of(rows, name)
    kinds = rows[opcode][1]
    return encode_message(number, opcode, list(zip(kinds, values)))


def _row_at(rows, opcode):
    return rows[opcode] if 0 <= opcode < len(rows) else None


def _opcode_of(rows, name):
    return [row[0] for row in rows].index(name)
