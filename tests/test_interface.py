"""The interface: each name stands in the file under which it is listed, with its arguments."""

import ast
import inspect
import unittest
from importlib import import_module
from pathlib import Path

FOLDER = Path(__file__).resolve().parent.parent / "loopworks"
FUNCTIONS = {
    "signs": ["read_signs(text)", "write_signs(signs)", "end_of(text)"],
    "expressions": [
        "value_at(expression, point)", "holds(constraint, point)", "all_hold(constraints, point)",
        "add(one, other)", "multiply(factor, expression)",
    ],
    "nests": ["in_context(program, sizes)"],
    "schedules": [
        "time_of(schedule, sizes, x)", "is_before(schedule, sizes, one, other)",
        "is_execution(nest, schedule, order)",
    ],
    "foldings": [
        "check_folding(program, folding)", "place_of(folding, cell)",
        "same_place(folding, one, other)",
    ],
    "keeping": ["is_kept(nest, schedule, *, folding=())"],
    "choosing": [
        "choose(nest, schedule, choices)", "settle(nest, schedule, some)",
        "choose_fine(nest, schedule, choices)", "is_fine_execution(nest, schedule, accesses)",
    ],
    "tags": [
        "dataflow(nest)", "trace(nest, order, *, folding=())",
        "trace_fine(nest, accesses, *, folding=())", "ends(nest, places)",
    ],
    "witnesses": [
        "witness(nest, schedule, fault, *, folding=())",
        "shown(nest, schedule, fault, *, folding=())",
    ],
    "systems": ["reduced_constraint(constraint)"],
    "elimination": ["cases(system, k)", "case_count(system, k)", "lift(system, k, index, point)"],
    "steps": ["apply_step(system, step)", "remaining(system, steps)", "refutes(system, steps)"],
    "asks": [
        "asks_of(program, schedule, *, folding=())", "clauses_hold(clauses, point)",
        "point_of_fault(nest, schedule, fault, *, folding=())",
    ],
    "derivations": [
        "failures(constraint)", "start_of(ask)", "apply_ask_step(ask, system, step)",
        "settles(ask, steps)", "accepts(program, schedule, derivations, *, folding=())",
    ],
    "examining": ["examine(system, *, effort=500)"],
    "searching": [
        "examine_ask(ask, *, effort=500)", "search(program, schedule, *, folding=(), effort=500)",
    ],
    "conditions": [
        "reduced(condition)", "least_form(conditions)", "eliminate(conditions, index)",
        "statement_conditions(program, schedule, number)", "estimates(program, schedule, number)",
        "conditions_up_to(program, schedule, number, index)",
    ],
    "generating": ["generate(program, schedule)"],
    "executing": [
        "executed(code, sizes)", "is_path_before(one, other)", "code_order(code, sizes)",
    ],
}
CLASSES = {
    "programs": {"Program": ["parse", "__eq__", "names_of"], "Statement": []},
    "nests": {
        "Nest": [
            "__init__", "__iter__", "__len__", "__contains__", "is_earlier", "written", "cells_read",
            "writer", "last_writer",
        ],
    },
    "schedules": {"Schedule": ["parse", "__eq__"]},
    "faults": {"Faults": ["__init__", "__iter__", "__len__", "__contains__", "first"]},
    "systems": {
        "System": [
            "__init__", "__eq__", "__len__", "__contains__", "__add__", "weight", "is_impossible",
            "reduced",
        ],
    },
    "asks": {"Ask": []},
    "codes": {"Code": ["parse", "__eq__"]},
    "benches": {
        "Bench": [
            "__init__", "is_arranged", "arrange", "submit", "problems", "loops", "tried", "attempt",
        ],
    },
}
METHODS = {
    ("programs", "Program"): ["parse(text)", "names_of(self, number)"],
    ("schedules", "Schedule"): ["parse(text, program)"],
    ("nests", "Nest"): [
        "is_earlier(self, one, other)", "written(self, x)", "cells_read(self, x)",
        "writer(self, cell, x)", "last_writer(self, cell)",
    ],
    ("systems", "System"): ["reduced(self)"],
    ("codes", "Code"): ["parse(text, program)"],
    ("benches", "Bench"): [
        "arrange(self, schedule, *, folding=())", "submit(self, derivations)",
        "problems(self, sizes)", "loops(self)", "tried(self)",
        "attempt(self, schedule, derivations, *, folding=())",
    ],
}


class InterfaceTest(unittest.TestCase):
    def test_functions(self):
        for name, listed in FUNCTIONS.items():
            module = import_module(f"loopworks.{name}")
            for written in listed:
                function = getattr(module, written.split("(")[0])
                self.assertEqual(function.__name__ + str(inspect.signature(function)), written)
                self.assertEqual(function.__module__, module.__name__)

    def test_classes(self):
        for name, listed in CLASSES.items():
            tree = ast.parse((FOLDER / f"{name}.py").read_text("ascii"))
            classes = {node.name: node for node in tree.body if isinstance(node, ast.ClassDef)}
            for title, methods in listed.items():
                own = [part.name for part in classes[title].body if isinstance(part, ast.FunctionDef)]
                self.assertEqual([method for method in methods if method not in own], [])

    def test_arguments_of_methods(self):
        for (name, title), listed in METHODS.items():
            made = getattr(import_module(f"loopworks.{name}"), title)
            for written in listed:
                method = getattr(made, written.split("(")[0])
                self.assertEqual(method.__name__ + str(inspect.signature(method)), written)

    def test_how_objects_are_made(self):
        for name, title, written in (
            ("nests", "Nest", "(program, sizes)"), ("systems", "System", "(variables, rows)"),
            ("faults", "Faults", "(nest, schedule, *, folding=())"), ("benches", "Bench", "(program)"),
        ):
            made = getattr(import_module(f"loopworks.{name}"), title)
            self.assertEqual(str(inspect.signature(made)), written)


if __name__ == "__main__":
    unittest.main()
