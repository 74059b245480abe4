"""The interface: each name with its arguments, in the module under whose heading it stands."""

import importlib
import inspect
import unittest

FUNCTIONS = {
    "octets.messages": ["encode_message(number, opcode, arguments)", "cut_messages(octets)"],
    "octets.fields": ["is_text(value)", "field_octets(kind, value)", "read_arguments(kinds, octets)"],
    "objects.tables": [
        "interface_names()", "request_row(interface, opcode)", "request_opcode(interface, name)",
        "event_row(interface, opcode)", "event_octets(number, interface, name, values)",
    ],
    "objects.requests": ["look_at(objects, message)", "new_object(request)", "fault_octets(fault)"],
    "objects.registries": ["global_rows(outputs)", "bound_interface(number, name)"],
    "regions.bands": [
        "rectangle_region(x, y, width, height)", "united(a, b)", "common(a, b)", "without(a, b)",
        "shifted(region, dx, dy)", "scaled(region, n)", "turned(region, height)", "mirrored(region, width)",
        "rectangles(region)", "has_square(region, x, y)",
    ],
    "regions.steps": ["region_of(steps)"],
    "surfaces.pictures": ["clear_picture(width, height)"],
    "surfaces.contents": [
        "empty_content(number)", "laid_over(first, second)", "changed_content(content, change)",
        "content_size(content)", "scale_fits(content)",
    ],
    "windows.frames": [
        "inside_of(frame)", "frame_of(inside)", "put_into(area, frame)", "placed_frame(area, count, width, height)",
        "can_be_caught(areas, frame)", "output_of(areas, frame)", "grown_frame(areas, frame, width, height)",
        "restored_frame(frame, before)", "meets(area, frame)", "part_at(frame, x, y)",
        "moved_frame(areas, frame, dx, dy)", "resized_frame(frame, part, dx, dy, least, largest)",
    ],
    "windows.positions": [
        "place_axis(anchor, gravity, begin, length, size, offset, room, bits)", "place_popup(positioner, room)",
    ],
    "devices.scenes": [
        "scene_of(stack, paintings, desks, views)", "covers_of(scene, areas)", "top_cover(covers, x, y)",
        "hit_at(scene, paintings, x, y)",
    ],
    "devices.keymaps": ["read_keymap(text)", "keymap_text(keymap)", "symbol_of(keymap, layout, code, modifiers)"],
    "devices.routing": ["nearest_point(areas, x, y)"],
    "giving.exchange": [
        "coming(policy, kind, goods, giver, taker)", "newest(policy, kind, given, labels, slot)",
        "shared_octets(policy, sent, labels, slot, name)", "is_present(policy, labels, taken, slot, label)",
    ],
    "policies.reading": ["read_policy(text)", "policy_text(text)"],
    "policies.flows": [
        "lets(policy, kind, content, giver, taker)", "can_give(policy, giver, taker)",
        "way(policy, labels, giver, taker)",
    ],
    "policies.clauses": ["clauses(policy)"],
    "outputs": ["check_outputs(outputs)"],
    "screens.screens": ["captured(output, layers, x, y, width, height)"],
    "screens.colours": ["over(colour, below)", "slot_colour(slot)"],
    "screens.layers": ["same_layer(a, b)", "window_layers(placed, desk, painting, view)"],
    "screens.painting": [
        "composed(output, layers)", "repainted(output, pixels, layers, region)", "differing(before, after)",
    ],
}
CLASSES = {
    "octets.messages Cutter()": ["feed(octets)"],
    "objects.owned Objects()": [
        "interface_of(number)", "numbers()", "may_give(number)", "is_full()", "give(number, interface)",
        "make(interface)", "end(number)",
    ],
    "objects.requests Request(number, interface, name, arguments, ends)": [],
    "objects.replies Reply()": ["tell(number, interface, name, values)", "end(number)", "wish(deed)"],
    "objects.registries Registries()": [
        "serve(request, outputs, time, reply)", "changed(before, after, reply)", "forget(number)", "output_of(number)",
    ],
    "outputs Output(number, x, y, width, height, scale, turn)": ["area()"],
    "surfaces.pictures Picture(width, height, pixels)": ["colour_at(x, y)", "turned(turn)"],
    "surfaces.buffers Buffers()": [
        "serve(request, other_pixels, reply)", "pixel_count()", "picture_of(number)", "region_of(number)",
    ],
    "surfaces.contents Content(picture, turn, scale, hears, order, places)": [],
    "surfaces.contents Change(attached, hearing, turn, scale, order, places, callbacks)": [],
    "surfaces.painting Painting()": [
        "serve(request, reply)", "take_callbacks()", "surfaces()", "content_of(surface)", "size_of(surface)",
        "tree_of(surface)", "hears_at(surface, x, y)", "pixel_count()", "may_claim(surface, role)",
        "claim(surface, role)", "release(surface)",
    ],
    "windows.stack Placed(slot, window, frame, hidden, maximized, before)": [],
    "windows.stack Stack()": [
        "placed_rows()", "find(slot, window)", "put(placed, top)", "take(slot, window)", "lift(slot, window)",
        "own(slot)", "perform(slot, deed)",
    ],
    "windows.view View(areas, own_windows, focus, grant, kept)": [],
    "windows.desk Desk()": [
        "serve(request, painting, view, reply)", "committed(surfaces, painting, view, reply)",
        "tell_frames(view, reply)", "dismiss_granted(reply)", "tell_close(window, reply)", "window_rows()",
        "limits_of(window)", "popup_rows(window, view)",
    ],
    "devices.scenes Shown(surface, x, y, clip)": [],
    "devices.scenes SceneWindow(slot, window, frame, plain, granted)": [],
    "devices.memory Painted()": [
        "paint(time, covers)", "disown(slot)", "scenes(time, guard)", "is_settled(covers, time, guard, x, y)",
        "was_seen(covers, time, guard, x, y)",
    ],
    "screens.layers Layer(what, region, colour, x, y, content)": [],
    "devices.keymaps Keymap(layouts)": [],
    "devices.hearing Hearing()": [
        "serve(request, keymap, focus_surface, reply)", "hear(deed, keymap, reply)", "keymap_set(keymap, reply)",
        "spend()",
    ],
    "devices.sight Sight(areas, scene, stack, paintings, desks, painted, guard)": [],
    "devices.routing Routing(areas)": [
        "motion(sight, time, x, y)", "button(sight, time, number, down)", "axis(sight, time, dx, dy)",
        "key(sight, time, code, down)", "switch(sight, slot, window)", "outputs_changed(areas)", "lost(sight)",
        "forget_slot(slot)", "has_grip(slot)",
    ],
    "giving.holdings Holdings()": [
        "serve(request, grant, gripped, dragging, reply)", "bound(number)", "ended(number)", "pane()",
        "offered(objects, way, goods, reply)", "hovers(surface, x, y, goods, reply)", "moves(time, x, y, reply)",
        "leaves(reply)", "dropped()", "answered(number, picture, reply)", "compare(shared, present, reply)",
        "fetch_names()", "watch_labels()",
    ],
    "giving.exchange Asked(number, slot, capture, output, x, y, width, height)": [],
    "giving.exchange Exchange()": [
        "give(slot, goods, primary)", "drag(slot, goods)", "send(slot, name, octets)", "unsend(slot, name)",
        "ask(slot, capture, output, x, y, width, height)", "hover(target)", "ended(slot)", "relabelled(slot)",
        "withdraw(slot, capture)",
    ],
    "screens.screens Screens(outputs, layers)": [
        "paint(outputs, layers)", "picture(number, x, y, width, height)", "painted(number)",
    ],
    "server.mailbox Mailbox()": [
        "put(octets)", "cost()", "take()", "is_bad()", "tell(octets)", "read(most)", "is_slow()", "close()",
    ],
    "server.server Server(outputs, policy, keymap, guard)": [
        "admit(slot, label)", "send(slot, octets)", "receive(slot, most)", "leave(slot)", "end(slot)", "restart()",
        "rounds(count)", "tick(time)", "motion(time, x, y)", "button(time, number, down)", "axis(time, dx, dy)",
        "key(time, code, down)", "switch(time, slot, window)", "paste(primary)", "allow(number, allowed)",
        "set_outputs(outputs)", "set_policy(text)", "set_keymap(text)", "set_guard(guard)", "captures()",
        "selection(primary)", "windows()", "slots()", "kept(slot)", "picture(number, x, y, width, height)",
        "painted(number)", "why(slot, number)",
    ],
    "errors Fault(number, code, words)": [],
    "errors BadKeymap(place, words)": [],
    "errors BadPolicy(line, column, words)": [],
}


def module_of(name):
    return importlib.import_module("sillwatch." + name)


def parts_of(words):
    """Return the name and the list of the arguments."""
    name, _, rest = words.partition("(")
    return name, [word for word in rest[:-1].split(", ") if word]


class Interface(unittest.TestCase):
    def check(self, thing, module, arguments):
        self.assertEqual(thing.__module__, "sillwatch." + module)
        found = list(inspect.signature(thing).parameters)
        self.assertEqual([name for name in found if name != "self"], arguments)

    def test_functions(self):
        for module, rows in FUNCTIONS.items():
            for words in rows:
                name, arguments = parts_of(words)
                with self.subTest(name=name):
                    function = getattr(module_of(module), name)
                    self.assertTrue(inspect.isfunction(function))
                    self.check(function, module, arguments)

    def test_classes(self):
        for heading, methods in CLASSES.items():
            module, _, words = heading.partition(" ")
            name, arguments = parts_of(words)
            with self.subTest(name=name):
                made = getattr(module_of(module), name)
                self.assertTrue(inspect.isclass(made))
                self.check(made, module, arguments)
                for method, expected in [parts_of(row) for row in methods]:
                    self.check(vars(made)[method], module, expected)

    def test_policy(self):
        made = module_of("policies.reading").Policy
        self.assertTrue(inspect.isclass(made))
        self.assertEqual(made.__module__, "sillwatch.policies.reading")

    def test_properties(self):
        cutter = module_of("octets.messages").Cutter
        for name in ["fault", "uncut"]:
            self.assertIsInstance(vars(cutter)[name], property)

    def test_buffers_of_a_painting(self):
        painting = module_of("surfaces.painting").Painting()
        self.assertIs(type(painting.buffers), module_of("surfaces.buffers").Buffers)


if __name__ == "__main__":
    unittest.main()
