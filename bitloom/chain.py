"""The chain from a design to bits, and the room that it needs."""

from bitloom.bits import config_bits
from bitloom.blasting import graph_of, in_widths, out_widths, size_bound
from bitloom.cells import cells_of
from bitloom.configs import config_of
from bitloom.easing import eased, levelled
from bitloom.fabric import pads_of
from bitloom.graphs import cut_graph
from bitloom.laying import lay
from bitloom.machine import read_back
from bitloom.making import made_anew
from bitloom.mapping import mapped
from bitloom.merging import merged
from bitloom.moving import moved_least
from bitloom.unrolling import flat_of
from bitloom.values import bit_lot, value_lot

STEP_WORDS = ("merged", "eased", "levelled", "moved")


def cut_of(flat):
    """The cut graph of a flat design."""
    return cut_graph(graph_of(flat))


def _one_step(graph, word):
    """The pair of the graph to which a step leads, and of the number of clocks by which it moves."""
    if word == "merged":
        return merged(graph), 0
    if word == "eased":
        return eased(graph), 0
    return (levelled(graph), 0) if word == "levelled" else moved_least(graph)


def stepped(graph, steps):
    """The pair of the graph to which steps lead from a cut graph, and of the shift."""
    shift = 0
    for word in steps:
        graph, late = _one_step(graph, word)
        shift += late
    return cut_graph(made_anew(graph, {})), shift


def bits_made(fabric, cells, laid):
    """The bits of what is laid of a cell net on a fabric."""
    return config_bits(config_of(fabric, cells, laid))


def made(design, steps, fabric):
    """The tuple (flat, graph, shift, net, cells, laid, bits) of what the stages make."""
    flat = flat_of(design)
    graph, shift = stepped(cut_of(flat), steps)
    net = mapped(graph, fabric[3])
    cells = cells_of(net)
    laid = lay(fabric, cells)
    return flat, graph, shift, net, cells, laid, bits_made(fabric, cells, laid)


def values_told(flat, bits, lots):
    """The list of the values of a flat design's outs for lots of its ins, as the machine read back tells them."""
    widths, out_wide = in_widths(flat), out_widths(flat)
    machine = read_back(bits)
    return [value_lot(out_wide, machine.step(bit_lot(widths, lot))) for lot in lots]


def _room(ands, registers, outs, ins):
    """The room for so many and nodes, registers, outs and in bits."""
    tiles = ands + 2 * (registers + outs)
    return tiles, tiles + ins, max(ins, outs)


def graph_room(graph):
    """The room (tiles, tracks, pads) that a graph needs."""
    return _room(len(graph[2]), len(graph[1]), len(graph[3]), graph[0])


def flat_room(flat):
    """The room (tiles, tracks, pads) that a flat design needs."""
    registers = sum([reg[1] for reg in flat[2]])
    return _room(size_bound(flat), registers, sum(out_widths(flat)), sum(in_widths(flat)))


def is_enough(fabric, room):
    """Whether a fabric is enough for a room."""
    tiles, tracks, pads = room
    return fabric[0] * fabric[1] >= tiles and fabric[2] >= tracks and len(pads_of(fabric)) >= pads
