"""How the messages of programs are handled, in rounds."""

from sillwatch.errors import Fault
from sillwatch.objects.owned import DISPLAY
from sillwatch.objects.replies import Reply
from sillwatch.objects.requests import look_at, new_object
from sillwatch.server.deeds import take_lost, tell_frames
from sillwatch.server.endings import BAD_SIZE, end_if_slow, end_slow_programs, end_with_error

UNITS = 128
_PAINTERS = ("memory", "buffer", "compositor", "region", "surface", "joiner", "sub")
_WINDOWS = ("windows", "window", "popup")
_DEVICES = ("seat", "pointer", "keyboard")
_GIVING = ("transfer", "source", "offer", "capture", "fetch", "watch")


def make_round(world):
    """Make a round: a turn of each program, and what follows behind all turns."""
    for slot, _ in world.programs():
        _take_turn(world, slot)
    tell_frames(world)
    end_slow_programs(world)


def _take_turn(world, slot):
    """Handle the messages of a program for which it has units."""
    place = world.slots[slot]
    units = UNITS
    while place.program is not None:
        cost = place.mailbox.cost()
        if cost is None or cost > units:
            break
        units -= cost
        _handle(world, slot, place.mailbox.take())
    if place.program is not None and place.mailbox.is_bad():
        end_with_error(world, slot, BAD_SIZE, None)


def _handle(world, slot, message):
    """Handle a message of a program."""
    cause = [message[0], message[1]]
    program = world.slots[slot].program
    # A window that is destroyed has no name any more when its frame is kept.
    names = program.window_names()
    reply = Reply()
    try:
        request = look_at(program.objects, message)
        made = new_object(request)
        if made is not None:
            program.objects.give(made[0], made[1])
        _serve(world, slot, request, reply)
    except Fault as fault:
        end_with_error(world, slot, (fault.number, fault.code, fault.words), cause)
        return
    if request.ends:
        reply.end(request.number)
    world.tell(slot, reply.told, cause)
    _end_objects(world, slot, reply.ended, cause)
    for wish in reply.wishes:
        _carry_out_wish(world, slot, wish, names)
    take_lost(world, cause)
    end_if_slow(world, slot, cause)


def _serve(world, slot, request, reply):
    """Let a request be served by the part that its interface belongs to."""
    program = world.slots[slot].program
    if request.interface in _PAINTERS:
        program.painting.serve(request, reply)
        if reply.applied:
            program.desk.committed(list(reply.applied), program.painting, world.view(slot), reply)
    elif request.interface in _WINDOWS:
        program.desk.serve(request, program.painting, world.view(slot), reply)
    elif request.interface in _DEVICES:
        program.hearing.serve(request, world.keymap, world.focus_surface(slot), reply)
    elif request.interface in _GIVING:
        is_dragging = any([dragging == slot for dragging, _ in world.exchange.drags])
        gripped = world.routing.has_grip(slot)
        program.holdings.serve(request, program.hearing.grant, gripped, is_dragging, reply)
    else:
        program.registries.serve(request, world.outputs, world.ticked, reply)
        made = new_object(request)
        if made is not None and made[1] == "transfer":
            program.holdings.bound(made[0])


def _end_objects(world, slot, numbers, cause):
    """End objects, and tell their program which of its numbers are free again."""
    program = world.slots[slot].program
    reply = Reply()
    for number in numbers:
        program.registries.forget(number)
        program.holdings.ended(number)
        world.exchange.withdraw(slot, number)
        if world.exchange.hovered == (slot, number):
            # Another surface may get the number, and that one is not hovered.
            world.exchange.hover((slot, 0))
        if program.objects.end(number):
            reply.tell(DISPLAY, "display", "removed", [number])
    world.tell(slot, reply.told, cause)


def _carry_out_wish(world, slot, wish, names):
    """Carry out what a request wants of what all programs share."""
    program = world.slots[slot].program
    word, *values = wish
    if word == "spend":
        program.hearing.spend()
    elif word == "give":
        world.exchange.give(slot, values[0], values[1])
    elif word == "drag":
        world.exchange.drag(slot, values[0])
    elif word == "send":
        world.exchange.send(slot, values[0], values[1])
    elif word == "unsend":
        world.exchange.unsend(slot, values[0])
    elif word == "ask":
        capture, output, x, y, width, height = values
        world.exchange.ask(slot, capture, program.registries.output_of(output), x, y, width, height)
    else:
        if word == "unmap":
            _keep_frame(world, slot, values[0], names)
        world.stack.perform(slot, wish)


def _keep_frame(world, slot, window, names):
    """Keep the frame of a window that is unmapped."""
    placed = world.stack.find(slot, window)
    if placed is not None:
        place = world.slots[slot]
        place.keep(names[window], placed)
