"""What comes of users' actions: deeds that are carried out, what is lost, and frames that are told."""

from sillwatch.objects.replies import Reply


def carry_out(world, deeds, request):
    """Carry out deeds, tuples (slot, deed), in order; what they tell is told by a request or by none (None)."""
    for slot, deed in deeds:
        reply = Reply()
        _carry_out_one(world, slot, deed, reply)
        world.tell(slot, reply.told, request)


def take_lost(world, request):
    """Take away what is lost with windows and surfaces that are shown no longer."""
    if world.routing.has_anything():
        carry_out(world, world.routing.lost(world.sight()), request)


def tell_frames(world):
    """Take away what is lost, and tell each program of its frames."""
    take_lost(world, None)
    for slot, program in world.programs():
        reply = Reply()
        program.desk.tell_frames(world.view(slot), reply)
        world.tell(slot, reply.told, None)


def _carry_out_one(world, slot, deed, reply):
    program = world.slots[slot].program
    if deed[0] == "dismiss":
        program.desk.dismiss_granted(reply)
    elif deed[0] == "close":
        program.desk.tell_close(deed[1], reply)
    elif deed[0] == "lift":
        world.stack.lift(slot, deed[1])
    elif deed[0] in ("hide", "unhide"):
        world.stack.set_hidden(slot, deed[1], deed[0] == "hide")
    elif deed[0] == "frame":
        world.stack.perform(slot, deed)
    else:
        program.hearing.hear(deed, world.keymap, reply)
