"""How programs end."""

from sillwatch.objects.owned import DISPLAY
from sillwatch.objects.tables import event_octets

TOO_SLOW = (DISPLAY, 7, "too slow")
BAD_SIZE = (DISPLAY, 1, "bad size")


def end_program(world, slot):
    """End a program: leave nothing of it but what is unread, what it gave, and its kept frames."""
    place = world.slots[slot]
    names = place.program.window_names()
    placed_rows = world.stack.own(slot)
    for window in names:
        if window in placed_rows:
            place.keep(names[window], placed_rows[window])
            world.stack.take(slot, window)
    place.program = None
    place.mailbox.close()
    world.painted.disown(slot)
    world.routing.forget_slot(slot)
    world.exchange.ended(slot)


def end_with_error(world, slot, error, request):
    """End a program with an error (object, code, words), by a request or by none (None)."""
    world.tell(slot, [event_octets(DISPLAY, "display", "error", list(error))], request)
    end_program(world, slot)


def end_if_slow(world, slot, request):
    """End a program that leaves too much unread."""
    place = world.slots[slot]
    if place.program is not None and place.mailbox.is_slow():
        end_with_error(world, slot, TOO_SLOW, request)


def end_slow_programs(world):
    """End all programs that leave too much unread, in the order of slots."""
    for slot, _ in world.programs():
        end_if_slow(world, slot, None)
