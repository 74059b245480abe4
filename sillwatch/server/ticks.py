"""What a tick does."""

from sillwatch.devices.scenes import covers_of
from sillwatch.giving.exchange import is_present, shared_octets
from sillwatch.objects.owned import DISPLAY
from sillwatch.objects.replies import Reply
from sillwatch.server.endings import end_slow_programs
from sillwatch.server.world import SLOTS


def make_tick(world):
    """Do what a tick does at the present time."""
    for slot, program in world.programs():
        _call_back(world, slot, program)
    end_slow_programs(world)
    for slot, program in world.programs():
        _tell_changes(world, slot, program)
    world.painted.paint(world.time, covers_of(world.scene(), world.areas()))
    world.screens.paint(world.outputs, world.layers(list(range(SLOTS))))
    end_slow_programs(world)


def _call_back(world, slot, program):
    """Tell a program's callbacks that wait for a tick."""
    reply = Reply()
    for callback in program.painting.take_callbacks():
        reply.tell(callback, "callback", "done", [world.time % 2 ** 32])
        if program.objects.end(callback):
            reply.tell(DISPLAY, "display", "removed", [callback])
    world.tell(slot, reply.told, None)


def _tell_changes(world, slot, program):
    """Tell a program's fetches and watches what has changed."""
    labels = world.labels()
    taken = [place.program is not None for place in world.slots]
    names = program.holdings.fetch_names()
    watched = program.holdings.watch_labels()
    shared = [shared_octets(world.policy, world.exchange.sent, labels, slot, name) for name in names]
    present = [is_present(world.policy, labels, taken, slot, label) for label in watched]
    reply = Reply()
    program.holdings.compare(shared, present, reply)
    world.tell(slot, reply.told, None)
