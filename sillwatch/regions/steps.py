"""Regions that are made by a list of steps."""

from sillwatch.errors import RegionTooComplex, RegionTooLarge
from sillwatch.regions.bands import (
    common, mirrored, rectangle_region, rectangles, scaled, shifted, turned, united, without,
)

FARTHEST = 1073741824
MOST_RECTANGLES = 1000


def region_of(steps):
    """Return the region that a list of steps makes from the empty one."""
    region = []
    for step in steps:
        region = _after_step(region, step)
        _check(region)
    return region


def _after_step(region, step):
    word, *numbers = step
    if word == "add":
        return united(region, rectangle_region(*numbers))
    if word == "subtract":
        return without(region, rectangle_region(*numbers))
    if word == "meet":
        return common(region, rectangle_region(*numbers))
    if word == "shift":
        return shifted(region, *numbers)
    if word == "scale":
        return scaled(region, *numbers)
    if word == "turn":
        return turned(region, *numbers)
    return mirrored(region, *numbers)


def _check(region):
    if any([_is_far(row) for row in region]):
        raise RegionTooLarge("the region reaches too far out")
    if len(rectangles(region)) > MOST_RECTANGLES:
        raise RegionTooComplex("the region has too many rectangles")


def _is_far(band):
    """Tell whether a band, or one of its spans, begins or ends too far out."""
    top, bottom, spans = band
    # The spans stand from the left, so the first and the last one tell how far all of them reach.
    return min(top, spans[0][0]) < -FARTHEST or max(bottom, spans[-1][1]) > FARTHEST
