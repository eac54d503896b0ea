"""The names and the arguments of the interface, and the files in which they are defined."""

import importlib
import inspect
import unittest

INTERFACE = {
    "words": ["wrap(n)", "unsigned(n)", "total(words)", "divided(n, k)", "mix(a, b)", "mixed(seed, numbers)"],
    "nets": [
        "Parameter(rows, cols, fill)", "Net(inputs, targets, parameters, nodes)", "operands(node)",
        "parameter_of(node)", "is_net(net)", "beginning(net, seed, p, i, j)", "beginnings(net, seed)",
        "row_length(net, v)",
    ],
    "shapes": ["length_of(net, known, node)"],
    "rings": ["WordRing()", "DualRing()"],
    "scenes": [
        "Scene(net, ring, seed, cells, sample, spot)", "row_of(net, sample, p, at)",
        "is_dropped(seed, spot, v, divisor, j)",
    ],
    "values": ["value_of(scene, v)", "forward(scene)"],
    "adds": ["backward(scene)"],
    "jobs": ["Job(net, seed, batch, factor, point, rates, data)", "is_job(job)", "rate_at(job, step)"],
    "texts": ["job_of(text)", "checked(text)", "formatted(text)"],
    "printed": ["printed(job)"],
    "feed": [
        "order_of(job, epoch)", "place_of(job, epoch, sample)", "sample_at(job, spot)", "batch_of(job, step)",
        "uses(job, sample, *, step)",
    ],
    "process": [
        "State(cells, moments)", "values_of(job, cells, step, t)", "adjoints_of(job, cells, step, t)",
        "gradients_of(job, cells, step, t)", "batch_gradients(job, cells, step)", "first_state(job)",
        "next_state(job, step, state)", "state_at(job, step)", "loss_with(job, cells, step)", "loss_at(job, step)",
    ],
    "slopes": [
        "slope(job, cells, direction, step, t)", "curvature(job, cells, direction, step, t)",
        "roundings(job, cells, direction, step, t)", "moved(cells, direction, by)", "product(gradients, direction)",
    ],
    "names": ["is_name(job, name)", "code_of(name)", "place(job, name)"],
    "terms": ["count_of(job, name)", "term_of(job, name, at)"],
    "ways": ["is_way(job, name, way)", "ways_of(job, name)", "premises(job, name, way)"],
    "making": ["made(job, name, way, words)"],
    "truths": ["truth(job, name)", "Truths(job)"],
    "derivations": ["plain_way(job, name)", "derivation(job, name, limit)"],
    "layouts": [
        "Layout(copies, stages, ways, cut, spread, redo)", "fits(job, layout)", "ranks_of(layout)",
        "rank_at(layout, copy, stage, way)", "part_begin(n, m, k)", "part_of(n, m, i)",
    ],
    "places": [
        "copy_of(job, layout, t)", "block_of(job, layout, copy)", "stage_of(layout, v)",
        "loss_rank(job, layout, copy)", "ways_of_element(job, layout, v, j)", "ranks_of_element(job, layout, t, v, j)",
        "user_of(net, p)", "ways_of_cell(job, layout, p, i, j)", "homes(job, layout, copy, p, i, j)",
        "updaters(job, layout, p, i, j)", "cells_of(net)",
    ],
    "homes": ["way_in(job, layout, name)", "ranks_in(job, layout, name)"],
    "goals": ["needed(job, layout, goals, known)", "acts_for(job, layout, goals, known)"],
    "tasks": ["step_tasks(job, layout, step)", "tasks(job, layout, start, steps)"],
    "letters": ["needs_of(job, act)", "gives_of(act)", "wired(job, acts)"],
    "drops": ["tidy(job, acts)"],
    "plans": ["Plan(acts, ranks)", "plan_of(job, layout, start, steps)", "trace(plan, name)"],
    "counts": ["rank_counts(plan, rank)", "counts(plan)"],
    "times": ["times(plan, *, make, word, file, delay)", "best(rows, memory)"],
    "varints": ["number_bytes(n)", "word_bytes(word)", "checksum(data)"],
    "files": ["follows(name)", "file_of(facts)"],
    "shards": ["facts_of(data)"],
    "store": ["stored(files)", "restored(job, files, step)", "needed_files(job, files, step)"],
    "fleets": ["Fleet(job, ranks)"],
}

RING = ["zero()", "one()", "still(word)", "plus(a, b)", "minus(a, b)", "times(a, b)", "divided(a, k)", "positive(a)"]
METHODS = {
    ("rings", "WordRing"): RING,
    ("rings", "DualRing"): RING,
    ("truths", "Truths"): ["word(name)", "state(step)"],
    ("plans", "Plan"): ["acts_of(rank)"],
    ("fleets", "Fleet"): [
        "go(rank)", "start(layout, steps)", "double(letter)", "lose(letter)", "crash(rank)", "tear(rank, size)",
        "rank_up(rank)", "commit(step)", "sweep(place)", "do(event)", "drive(layouts, steps, seed, *, count)", "undo()",
        "can(event)", "next_act(rank)", "ranks()", "ready()", "remaining()", "held_by(rank)", "letters()", "files()",
        "commits()", "told()", "restore(step)", "needed(step)",
    ],
}


class InterfaceTest(unittest.TestCase):
    def check(self, one, told, module):
        self.assertEqual(one.__module__, f"asifone.{module}", told)
        parameters = [part for part in inspect.signature(one).parameters.values() if part.name != "self"]
        self.assertEqual(str(inspect.Signature(parameters)), told[told.index("("):], told)

    def test_functions_and_classes(self):
        for module, rows in INTERFACE.items():
            for told in rows:
                one = getattr(importlib.import_module(f"asifone.{module}"), told[:told.index("(")])
                self.check(one, told, module)

    def test_methods_are_those_of_the_class_itself(self):
        for (module, name), rows in METHODS.items():
            body = vars(getattr(importlib.import_module(f"asifone.{module}"), name))
            for told in rows:
                self.check(body[told[:told.index("(")]], told, module)

    def test_the_property(self):
        module = importlib.import_module("asifone.fleets")
        self.assertIsInstance(vars(module.Fleet)["present"], property)
