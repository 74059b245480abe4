"""What programs are told of drags."""

from sillwatch.devices.scenes import covers_of, hit_at
from sillwatch.giving.exchange import newest
from sillwatch.objects.replies import Reply

DROP_WAY = 2


def tell_moved_drag(world):
    """Tell of drags behind a motion."""
    target = _target(world)
    hovered = world.exchange.hovered
    if hovered is not None and (target is None or target[:2] != hovered):
        reply = Reply()
        world.slots[hovered[0]].program.holdings.leaves(reply)
        world.tell(hovered[0], reply.told, None)
        world.exchange.hover(None)
    if target is None:
        return
    slot, surface, x, y, goods = target
    holdings = world.slots[slot].program.holdings
    reply = Reply()
    if world.exchange.hovered is None:
        world.exchange.hover((slot, surface))
        holdings.hovers(surface, x, y, goods, reply)
    else:
        holdings.moves(world.time % 2 ** 32, x, y, reply)
    world.tell(slot, reply.told, None)


def tell_ended_drags(world):
    """Tell of drags behind the release of the last pressed button, with which they are over."""
    if world.exchange.hovered is not None:
        _drop(world, world.exchange.hovered[0])
        world.exchange.hover(None)
    for slot in world.exchange.end_drags():
        pane = world.slots[slot].program.holdings.pane()
        if pane is not None:
            reply = Reply()
            reply.tell(pane, "transfer", "ended", [])
            world.tell(slot, reply.told, None)


def _drop(world, slot):
    """Give the program of the hovered surface an offer of what is dropped, or tell it that nothing is."""
    program = world.slots[slot].program
    reply = Reply()
    target = _target(world)
    is_told = False
    if target is not None and target[:2] == world.exchange.hovered and _is_settled(world):
        is_told = program.holdings.offered(program.objects, DROP_WAY, target[4], reply)
    if is_told:
        program.holdings.dropped()
    else:
        program.holdings.leaves(reply)
    world.tell(slot, reply.told, None)


def _target(world):
    """Return the surface to which something of drags comes, a tuple (slot, surface, x, y, goods), or None."""
    if not world.exchange.drags:
        return None
    hit = hit_at(world.scene(), world.paintings(), world.routing.x, world.routing.y)
    if hit is None or hit[0] != "surface":
        return None
    _, slot, _, surface, x, y = hit
    goods = newest(world.policy, "drop", world.exchange.drags, world.labels(), slot)
    return (slot, surface, x, y, goods) if goods else None


def _is_settled(world):
    """Tell whether the window at the pointer is settled there."""
    covers = covers_of(world.scene(), world.areas())
    return world.painted.is_settled(covers, world.time, world.guard, world.routing.x, world.routing.y)
