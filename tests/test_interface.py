"""The interface: names, arguments, where each is defined; and what holds of all calls ([0.2])."""

import copy
import importlib
import inspect
import unittest

from clausemodels import HOLDING_G, Q
from graphmodels import CELLS_T, FABRIC_F, TABLES_G
from layermodels import CONFIG_C, LAID_T
from models import C, F, T
from support import LoomTest

INTERFACE = {
    "names": "is_name(value) is_value(value,width)",
    "trees": "check_tree(value) part_at(design,path) paths_of(design,word)",
    "lexemes": "lexemes(text)",
    "texts": "design_text(design) expression_text(expression) number_text(number) read_design(text) "
             "read_expression(text) read_number(text)",
    "numbers": "reckoned(number,values)",
    "checker": "fault_of(design) check_design(design) judge_ring(design,value)",
    "unrolling": "instances_of(design) things_of(design) flat_of(design)",
    "flats": "check_flat(value) widths_of(flat) needed_rows(flat)",
    "clocks": "row_values(flat,lot,state) start(flat) step(flat,lot,state) outputs(flat,lots) states(flat,lots) "
              "run_from(flat,state,lots) for_ever(flat,lots) first_unlike(one,other,lots)",
    "events": "comes_to(flat,standing,lot,state,number) uneasy(flat,standing,lot,state) "
              "after_round(flat,standing,lot,state) rounds_of(flat,standing,lot,state) levels(flat) prices(flat) "
              "settled(flat,standing,lot,state,picks) changes(flat,lots)",
    "traces": "is_trace(value) trace_of(flat,lots) trace_text(trace) read_trace(text) value_in(trace,name,clock)",
    "graphs": "check_graph(value) has_one_names(graph) many_nodes(graph) first_and(graph) depths(graph) depth(graph) "
              "needed_nodes(graph) cut_graph(graph)",
    "graphrun": "start_state(graph) node_values(graph,state,lot) step(graph,state,lot) graph_outputs(graph,lots)",
    "values": "bits_of(width,value) value_of(bits) bit_lot(widths,values) value_lot(widths,bits)",
    "blasting": "size_bound(flat) graph_of(flat) graph_by_rows(flat) in_widths(flat) out_widths(flat)",
    "making": "and_of(graph,l,m) made_anew(graph,exchanges)",
    "merging": "find_equals(graph) are_closed(graph,lots) merged(graph)",
    "easing": "eased(graph) levelled(graph)",
    "sources": "source_of(graph,literal) needed_ands(graph) still_registers(graph)",
    "periods": "period(graph) least_period(graph) lags_for(graph,c) paper_against(graph,c) judge_lags(graph,c,value) "
               "judge_paper(graph,c,value) least_shift(graph,c) early_lags(graph,c) shift_paper(graph,c,l) "
               "judge_shift(graph,c,l,value)",
    "moving": "moved(graph,lags) moved_least(graph)",
    "nets": "check_net(value) run_net(net,lots) level_in(net,node) net_depth(net) tight(net) is_tight(net)",
    "cuts": "is_cut(graph,node,value) cuts(graph,k,node) truth_by(graph,literal,nodes)",
    "labels": "labels(graph,k) least_depth(graph,k) label_paper(graph,k) judge_labels(graph,k,value)",
    "covers": "cover(graph,k) lean_cover(graph,k,depth) cover_depth(graph,value) judge_cover(graph,k,value)",
    "mapping": "net_of(graph,k,cover) mapped(graph,k)",
    "fabric": "check_fabric(value) neighbour(fabric,x,y,side) is_border(fabric,x,y) is_wire(fabric,value) "
              "wire_in(fabric,x,y,side,track) all_wires(fabric) tiles_of(fabric) pads_of(fabric) "
              "fabric_for(k,cells,signals,ins,outs)",
    "cells": "check_cells(value) cells_of(net) wanted(cells) cell_outputs(cells,lots)",
    "placing": "has_room(fabric,cells) place(fabric,cells) length(cells,placing) is_settled(fabric,cells,placing) "
               "crossing(cells,placing,cut) crowded(fabric,cells,placing)",
    "laid": "check_laid(fabric,cells,value) carried(fabric,cells,laid) laid_outputs(fabric,cells,laid,lots)",
    "laying": "lay(fabric,cells) lay_placed(fabric,cells,placing)",
    "timing": "table_times(fabric,cells,laid) delay(fabric,cells,laid) longest_way(fabric,cells,laid) "
              "timed_outputs(fabric,cells,laid,lots,period)",
    "configs": "menu_of_input(fabric,x,y) menu_of_wire(fabric,x,y,side,track) menu_of_out(fabric,x,y) check_config(value) "
               "empty_config(fabric) ring_of(config) judge_ring(config,value) config_of(fabric,cells,laid)",
    "bits": "config_bits(config) bits_config(bits) bits_text(bits) read_bits(text) check_of(digits)",
    "machine": "run(config,lots) read_back(bits)",
    "clauses": "is_clause(value) check_clauses(value) spread(clauses,literals) follows(clauses,clause) keeps(clauses,literals)",
    "solving": "solve(clauses) judge_barring(clauses,value)",
    "clauseforms": "literal_of(literal) clauses_of(graph) unrolled(graph,clocks) starting(graph) parting(one,other) joint(one,other) "
                   "first_clauses(graph,pairs) step_clauses(graph,pairs) first_holds(graph,out,k) step_holds(graph,out,k)",
    "alike": "alike_step(one,other) judge_step(one,other,value) alike_ever(one,other) judge_ever(one,other,value)",
    "properties": "holds(graph,out) judge_holds(graph,out,value)",
    "chain": "stepped(graph,steps) made(design,steps,fabric) graph_room(graph) flat_room(flat) is_enough(fabric,room)",
}

# The classes: what they are made with, and their methods.
CLASSES = {
    ("machine", "Machine"): ("config", "config() registers() step(lot) restart() twin()"),
    ("loader", "Loader"): ("", "take(row) numbers() missing() is_whole() drop() switch() step(lot) machine()"),
    ("desk", "Desk"): ("", "modules() top() steps() fabric() design() act_word(act) do(act) undo() redo() acts() fault() flat() graph() "
                           "shift() net() cells() laid() bits() work() machine() outputs(lots) twin()"),
    ("console", "Console"): ("desk", "answer(line)"),
}

LOTS = [(1,), (0,), (1,)]
STANDING = (0, 5, 3, 7, 1)

# Calls that are passed lists, each of which may be a tuple instead.
CALLS = [
    ("trees", "part_at", C, [0, 0, 2]), ("clocks", "outputs", F, LOTS), ("clocks", "states", F, LOTS),
    ("clocks", "run_from", F, (6,), LOTS), ("clocks", "for_ever", F, LOTS), ("clocks", "first_unlike", F, F, LOTS),
    ("events", "settled", F, STANDING, (1,), (6,), [3, 1, 4]), ("events", "changes", F, LOTS),
    ("traces", "trace_of", F, LOTS), ("graphrun", "graph_outputs", T, LOTS), ("values", "bit_lot", [1, 3], (1, 5)),
    ("values", "value_lot", [1, 3], (1, 1, 0, 1)), ("making", "made_anew", T, {2: 0}),
    ("merging", "are_closed", T, [(0,), (4,)]), ("merging", "find_equals", T), ("cells", "cell_outputs", CELLS_T, LOTS),
    ("nets", "run_net", (2, 1, ((0, 3),), (((1, 2), 6),), (2,)), LOTS),
    ("laid", "laid_outputs", FABRIC_F, CELLS_T, LAID_T, LOTS), ("timing", "timed_outputs", FABRIC_F, CELLS_T, LAID_T, LOTS, 4),
    ("machine", "run", CONFIG_C, [(0, 1), (1, 1)]), ("clauses", "spread", Q, [-2, 3]), ("clauses", "follows", Q, (2,)),
    ("clauses", "keeps", Q, (1, 2)), ("solving", "solve", Q), ("solving", "solve", Q[:3]), ("solving", "judge_barring", Q, [(2,), ()]),
    ("clauseforms", "first_clauses", T, [(2, 4), (5, 4)]), ("clauseforms", "step_clauses", T, [(2, 4), (5, 4)]),
    ("alike", "judge_ever", HOLDING_G, HOLDING_G, ("alike", ("states", [(0, 0)]))),
    ("alike", "judge_step", HOLDING_G, HOLDING_G, ("alike", [(-7,), (3,), (4,), ()])),
    ("properties", "judge_holds", HOLDING_G, 0, ("holds", ("steps", 1, [()], [()]))), ("alike", "alike_ever", HOLDING_G, HOLDING_G),
]


def function(file, name):
    """A function of the interface."""
    return getattr(importlib.import_module(f"bitloom.{file}"), name)


class InterfaceTest(LoomTest):
    def test_names_and_arguments(self):
        for file, told in INTERFACE.items():
            for one in told.split():
                name, _, arguments = one.rstrip(")").partition("(")
                call = function(file, name)
                self.assertEqual(call.__module__, f"bitloom.{file}", one)
                self.assertEqual(list(inspect.signature(call).parameters), arguments.split(","), one)

    def test_classes_and_their_methods(self):
        for (file, name), (arguments, methods) in CLASSES.items():
            kind = function(file, name)
            self.assertEqual(kind.__module__, f"bitloom.{file}")
            self.assertEqual(list(inspect.signature(kind).parameters), arguments.split())
            for one in methods.split():
                method, _, passed = one.rstrip(")").partition("(")
                # Each stands in the class itself.
                self.assertIn(method, vars(kind))
                parameters = list(inspect.signature(getattr(kind, method)).parameters)
                self.assertEqual(parameters[1:], passed.split(",") if passed else [], one)

    def test_lists_stay_as_they_are_and_may_be_tuples(self):
        for file, name, *passed in CALLS:
            call = function(file, name)
            before = copy.deepcopy(passed)
            told = self.is_new(call, *passed)
            self.assertEqual(passed, before)
            self.assertEqual(call(*[tuple(one) if isinstance(one, list) else one for one in passed]), told)

    def test_what_is_judged_stays_as_it_is(self):
        for file, name, *ahead in [
            ("trees", "check_tree"), ("flats", "check_flat"), ("graphs", "check_graph"), ("traces", "is_trace"),
            ("names", "is_name"), ("checker", "judge_ring", C), ("periods", "judge_lags", T, 2),
            ("periods", "judge_paper", T, 1), ("periods", "judge_shift", T, 1, 1), ("nets", "check_net"),
            ("cuts", "is_cut", TABLES_G, 7), ("labels", "judge_labels", TABLES_G, 2), ("covers", "judge_cover", TABLES_G, 2),
            ("fabric", "check_fabric"), ("fabric", "is_wire", (2, 2, 1, 2, 1)), ("cells", "check_cells"),
            ("laid", "check_laid", FABRIC_F, CELLS_T), ("configs", "check_config"), ("configs", "judge_ring", CONFIG_C),
            ("clauses", "is_clause"), ("clauses", "check_clauses"), ("solving", "judge_barring", Q), ("alike", "judge_step", T, T),
            ("alike", "judge_ever", T, T), ("properties", "judge_holds", T, 0),
        ]:
            value = [({"a": [1]}, ["b"]), [], {"c": {}}]
            before = copy.deepcopy(value)
            for judged in (value, tuple(value), (tuple(value), value)):
                try:
                    function(file, name)(*ahead, judged)
                except ValueError:
                    pass
            self.assertEqual(value, before)


if __name__ == "__main__":
    unittest.main()
