"""The interface of the document: its names, their arguments and the files that define them."""

import inspect
import unittest
from importlib import import_module

FUNCTIONS = {
    "ratios": (
        "fraction(numerator, denominator)", "plus(a, b)", "minus(a, b)", "times(a, b)", "over(a, b)", "compare(a, b)",
        "magnitude(a)", "whole(a)", "nearest(a)", "write_fraction(a)", "read_fraction(text)"),
    "shapes": (
        "check_shape(shape)", "count_of(shape)", "letters_of(shape)", "broadcast(first, second)", "offset(shape, at)",
        "indexes(shape, position)"),
    "kinds": ("pointwise(kind, values, info)",),
    "domains": ("domain_of(node, domains)",),
    "graphs": ("check_graph(graph)", "inputs_of(graph)", "work_of(graph)"),
    "notation": ("write_graph(graph)", "read_graph(text)"),
    "meaning": ("evaluate(graph, feeds)", "evaluate_all(graph, feeds)"),
    "tangents": ("tangent_graph(graph, low, high)",),
    "gradients": ("gradient_graph(graph, low, high)",),
    "rules": ("apply_rule(graph, rule, node)",),
    "rewriting": ("sites(graph, rule)", "replay(graph, steps)"),
    "tidying": ("prune(graph)", "fold_constants(graph)", "share(graph)"),
    "optimizing": ("cost_of(graph)", "optimize(graph, fuel)"),
    "graph_terms": ("graph_terms(table, graph)",),
    "loops": ("check_program(program)",),
    "running": ("run_program(program, given)",),
    "agreeing": ("program_terms(table, program, given)", "agree(first, second)"),
    "lowering": ("lower(graph, kept)",),
    "changes": ("apply_change(program, change)",),
    "lives": ("lives(program, outs)", "meet(one, other)"),
    "placing": (
        "check_places(all_lives, sizes, places)", "peak_of(all_lives, sizes)", "choose_places(all_lives, sizes)"),
    "machines": ("check_machine(machine)", "fits(machine, n)"),
    "instructions": ("check_code(machine, code)",),
    "listing": ("write_code(machine, code)", "read_code(machine, text)"),
    "device": ("run_code(machine, code, main, near, delays)",),
    "auditing": ("audit_code(table, machine, code, main)",),
    "generating": ("generate(machine, program, layout, spare)",),
    "building": ("build(graph, schedule, machine)",),
    "certifying": ("certify(graph, machine, code, inputs, constants, outputs)",),
    "images": (
        "load_image(image, feeds, filler)", "unload_image(image, main)", "run_image(image, feeds, filler, delays)"),
    "scheduling": ("default_schedule(graph)", "tuned_schedule(graph, machine)"),
    "scales": (
        "multiplier(a)", "code_of(pair, bits, x)", "meaning_of(pair, code)", "choose_table(graph, bits)",
        "check_table(graph, table, bits)"),
    "quantizing": (
        "quantize_graph(graph, table, bits)", "encode_feeds(graph, table, bits, feeds)",
        "decode_outputs(graph, table, bits, values)"),
    "bounds": ("bound_of(graph, table, bits)",),
    "updating": ("step_graph(graph, parameters, rate, low, high)",),
    "journal": ("check_number(text)", "journal_line(steps, weights)", "read_line(line, sizes)"),
    "trainer": ("resume(trainer, text)",),
}

METHODS = {
    ("terms", "Terms"): (
        "__init__(self)", "__len__(self)", "number(self, n)", "variable(self, key, low, high)",
        "make(self, kind, ids, info)", "pick(self, ids, index)", "span(self, id_of_term)",
        "value(self, id_of_term, values)"),
    ("device", "Device"): (
        "__init__(self, machine, code, main, near, delays)", "step(self)", "slot(self, k)", "main_word(self, k)",
        "near_word(self, k)", "pending(self, q)"),
    ("trainer", "Trainer"): (
        "__init__(self, graph, parameters, *, rate, low, high, schedule, machine, weights)",
        "step(self, batch, filler, delays)"),
}

PROPERTIES = {("device", "Device"): ("at", "stopped"), ("trainer", "Trainer"): ("weights", "steps", "journal")}

CONSTANTS = {
    "shapes": {"RANK_LIMIT": 4, "SIZE_LIMIT": 16, "COUNT_LIMIT": 256},
    "kinds": {"NODE_LIMIT": 400, "WORK_LIMIT": 50000, "WIDTH_LIMIT": 200},
    "terms": {"VALUE_LIMIT": 20000},
    "changes": {"CHANGES": ("tile", "swap", "unroll", "reverse", "split", "fuse", "stage")},
    "generating": {"SPARE": 20},
}


def module(name):
    return import_module(f"tensorcompiler.{name}")


class Interface(unittest.TestCase):
    def test_functions(self):
        for name, heads in FUNCTIONS.items():
            for head in heads:
                found = getattr(module(name), head.split("(")[0])
                self.assertEqual(found.__name__ + str(inspect.signature(found)), head)
                self.assertEqual(found.__module__, f"tensorcompiler.{name}")

    def test_methods_stand_in_the_class_itself(self):
        for (name, kind), heads in METHODS.items():
            found = getattr(module(name), kind)
            self.assertEqual(found.__module__, f"tensorcompiler.{name}")
            for head in heads:
                method = vars(found)[head.split("(")[0]]
                self.assertEqual(method.__name__ + str(inspect.signature(method)), head)

    def test_properties_stand_in_the_class_itself(self):
        for (name, kind), names in PROPERTIES.items():
            found = getattr(module(name), kind)
            for one in names:
                self.assertIsInstance(vars(found)[one], property)

    def test_image_is_defined_in_building(self):
        self.assertEqual(module("building").Image.__module__, "tensorcompiler.building")

    def test_constants(self):
        for name, constants in CONSTANTS.items():
            for constant, worth in constants.items():
                self.assertEqual(getattr(module(name), constant), worth)


if __name__ == "__main__":
    unittest.main()
