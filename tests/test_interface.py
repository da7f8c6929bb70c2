"""The first paragraph of "The interface": names, arguments and the files in which they are defined."""

import importlib
import inspect
import unittest

FUNCTIONS = {
    "maps": ["check_map(text)", "read_rows(text)", "format_map(text)", "read_floor(text)"],
    "floors": ["floor_of(near, doors, stations)"],
    "distances": [
        "distances(floor, closed, aims)",
        "distance(floor, closed, aims, position)",
        "nearer(floor, closed, aims, position)",
    ],
    "search": [
        "ahead_table(ways)",
        "next_spots(floor, closed, table, spot)",
        "explore(floor, closed, ways, starts)",
        "path_to(spots, parents, index)",
        "find_path(floor, closed, ways, starts, goals)",
        "search_cut(floor, closed, ways, starts)",
    ],
    "links": ["links_of(ways)", "changed_links(links, path)", "follow(links, cell)", "new_ways(ways, path)"],
    "ways": [
        "add_way(floor, closed, ways, cell)",
        "most_ways(floor, closed, sources, goals)",
        "ways_home(floor, closed, cells)",
    ],
    "assign": ["nearest_free(fleet, cells)", "next_order(fleet)", "assign(fleet)"],
    "acts": [
        "first_robot(fleet)",
        "nearer_places(fleet, cells, robot)",
        "step(fleet, robot, position)",
        "can_step(fleet, robot, position)",
        "step_home(fleet, robot)",
        "handle(fleet, number)",
        "plain_act(fleet, number, robot)",
        "first_goes(fleet)",
        "careful_act(fleet, number, robot)",
        "idle_act(fleet, robot)",
        "act_of(fleet, robot)",
    ],
    "waiting": [
        "robot_on(fleet, position)",
        "hindrance(fleet, robot, position)",
        "hindrances(fleet, number, robot)",
        "waits(fleet, robot)",
    ],
    "events": [
        "why_no_order(fleet, start, goal)",
        "why_not(fleet, event)",
        "broken_down(fleet, robot)",
        "happen(fleet, event)",
        "run(fleet, events)",
    ],
    "analysis": [
        "strength(floor, robots, closed=())",
        "keeps_promise(floor, robots, broken)",
        "hanging_cells(floor, robots)",
        "analyze(floor, robots)",
        "most_acts(floor, robots)",
    ],
    "effort": [
        "steps_home(fleet, robot)",
        "work_of(fleet, robot)",
        "share_of(fleet, robot)",
        "delay(fleet)",
        "effort(fleet)",
    ],
    "log": [
        "write_event(event)",
        "read_event(line)",
        "read_number(text)",
        "read_order(parts)",
        "write_log(events)",
        "read_log(text)",
    ],
    "runs": [
        "mix(first, second)",
        "chosen(fleet, word, most)",
        "tries(fleet, seed, index, *, most)",
        "first_that_happens(fleet, events)",
        "drive(fleet, *, seed, most, count)",
    ],
    "papers": [
        "is_linked(floor, cells)",
        "share_cells(cells)",
        "is_way(floor, closed, sources, goals, way)",
        "are_apart(ways)",
        "are_home(floor, closed, cells, ways)",
        "cuts_off(floor, closed, sources, goals, cut)",
        "is_safe(fleet)",
        "is_served(fleet)",
        "reached_cells(floor, closed, sources, barred)",
    ],
    "games": [
        "is_move(floor, closed, traps, positions, move)",
        "moves(floor, closed, traps, positions)",
        "play(floor, closed, traps, positions, row)",
        "escape(floor, ways, traps)",
        "blockade(floor, closed, cells)",
        "weakness(floor, robots, broken)",
        "trail(parents, place)",
        "approach(floor, cells, traps)",
    ],
    "serving": [
        "next_ready(fleet, turn)",
        "serve(fleet, *, turn=0, count)",
        "all_home(fleet, numbers)",
        "one_home(fleet, number)",
    ],
    "pictures": ["sign_at(fleet, cell)", "picture(fleet)", "way_picture(fleet, robot)"],
    "signs": ["byte_of(sign)", "is_plain(text)", "bytes_of(text)", "text_of(row)"],
    "journal": ["format_device(device)", "valid_area(device)"],
    "reports": ["write_report(robots, orders)", "read_report(text)"],
    "house": ["opened(journal)"],
}

CLASSES = {
    "errors": {
        "ClearfloorError": [],
        "MapError": ["__init__(self, line, column, problem)"],
        "LineError": ["__init__(self, line)"],
        "RefusedError": ["__init__(self, reason, line=0)"],
        "LimitError": ["__init__(self, reason)"],
        "PowerCut": ["__init__(self, written)"],
        "ShutError": [],
        "MoveError": ["__init__(self, index)"],
    },
    "floors": {
        "Floor": [
            "__init__(self, near, doors, stations, places)",
            "around(self, position)",
            "place(self, position)",
            "cell_at(self, row, column)",
            "station(self, letter)",
        ],
    },
    "fleet": {
        "Robot": ["__init__(self, place, broken=False, way=())", "twin(self)"],
        "Order": [
            "__init__(self, start, goal)",
            "twin(self)",
            "give(self, robot)",
            "load(self)",
            "release(self)",
            "finish(self)",
        ],
        "Fleet": [
            "__init__(self, floor, *, robots, patience=4)",
            "twin(self)",
            "closed(self)",
            "taken(self)",
            "running(self)",
            "kept_ways(self, numbers)",
            "order_of(self, robot)",
            "aim(self, number)",
            "is_free(self, robot)",
            "first_open(self)",
            "count_broken(self)",
            "count_done(self)",
        ],
    },
    "device": {
        "Device": [
            "__init__(self, size, *, power=None)",
            "write(self, start, row)",
            "read(self, start, many)",
            "recharge(self, power=None)",
        ],
    },
    "journal": {
        "Journal": [
            "__init__(self, device)",
            "texts(self)",
            "room(self)",
            "write_record(self, text)",
            "rewrite(self, texts)",
        ],
    },
    "radio": {
        "Radio": [
            "__init__(self)",
            "send(self, letter)",
            "take(self, index)",
            "lose(self, index)",
            "double(self, index)",
        ],
    },
    "unit": {
        "Unit": [
            "__init__(self, number, position)",
            "hear(self, letter)",
            "told(self)",
            "fail(self)",
            "repair(self, position)",
        ],
    },
    "dispatch": {
        "Dispatch": [
            "__init__(self, floor, *, robots, patience=4)",
            "order(self, start, goal)",
            "command(self, robot)",
            "resend(self)",
            "ask(self, robot)",
            "deliver(self, index)",
            "repair(self, robot)",
        ],
    },
    "house": {
        "Warehouse": [
            "__init__(self, text, *, robots, patience=4, journal=None)",
            "order(self, start, goal)",
            "go(self, robot)",
            "fail(self, robot)",
            "tow(self, robot)",
            "drive(self, *, seed, most, count)",
            "replay(self, text)",
            "undo(self)",
            "pack(self)",
            "robot_rows(self)",
            "order_rows(self)",
            "ready(self)",
            "act(self, robot)",
            "waits(self, robot)",
            "first(self)",
            "distance(self, robot, letter)",
            "log(self)",
            "bound(self)",
            "effort(self)",
        ],
    },
}


def form_of(function):
    """The parameters of a function, as the interface writes them."""
    signature = inspect.signature(function)
    bare = [each.replace(annotation=each.empty) for each in signature.parameters.values()]
    return str(signature.replace(parameters=bare, return_annotation=signature.empty))


class InterfaceTest(unittest.TestCase):
    def check(self, module, owner, line):
        name = line.partition("(")[0]
        self.assertIn(name, vars(owner), line)
        found = vars(owner)[name]
        self.assertTrue(inspect.isfunction(found), line)
        self.assertEqual(found.__module__, module.__name__, line)
        self.assertEqual(name + form_of(found), line)

    def test_functions(self):
        for file, lines in FUNCTIONS.items():
            module = importlib.import_module("clearfloor." + file)
            for line in lines:
                self.check(module, module, line)

    def test_classes_and_their_methods(self):
        for file, classes in CLASSES.items():
            module = importlib.import_module("clearfloor." + file)
            for name, lines in classes.items():
                kind = getattr(module, name)
                self.assertTrue(inspect.isclass(kind), name)
                self.assertEqual(kind.__module__, module.__name__, name)
                for line in lines:
                    self.check(module, kind, line)
