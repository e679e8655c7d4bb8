"""Desks ([S10.3] to [S10.5])."""

import random
import unittest

from deskmodels import FABRICS, MODULES, UP_TO, ModelDesk, model_act_word, random_act
from models import C
from samples import random_lots
from support import LOOSE, LoomTest, deep

from bitloom.blasting import in_widths
from bitloom.clocks import outputs
from bitloom.desk import Desk
from bitloom.errors import BadAct, NotReady, NothingDone
from bitloom.machine import read_back

COUNT = C[0][0]
FABRIC = (6, 6, 40, 4, 2)
DONE = [("put", COUNT), ("top", "count", (3,)), ("fabric", FABRIC)]
ASKINGS = ("flat", "graph", "shift", "net", "cells", "laid", "bits")


def desk_with(acts):
    """A desk at which acts were done."""
    desk = Desk()
    for act in acts:
        desk.do(act)
    return desk


class ActTest(LoomTest):
    def test_at_first(self):
        desk = Desk()
        told = (self.is_new(desk.modules), desk.top(), desk.steps(), desk.fabric(), desk.design(), self.is_new(desk.acts), desk.work())
        self.assertEqual(told, ({}, None, (), None, ((), None), [], ()))
        self.assertEqual(desk.fault(), ("design", "top"))
        self.assertEqual(desk.work(), ("design",))

    def test_each_act(self):
        desk = Desk()
        self.assertEqual([desk.do(act) for act in DONE], [1, 2, 3])
        self.assertEqual(desk.do(("steps", ("moved", "moved"))), 4)
        self.assertEqual(desk.modules(), {"count": COUNT})
        self.assertEqual((desk.top(), desk.steps(), desk.fabric()), (("count", (3,)), ("moved", "moved"), FABRIC))
        self.assertEqual(desk.design(), ((COUNT,), ("count", (("number", 3),))))
        other = ("count", (), ())
        self.assertEqual(desk.do(("put", other)), 5)
        desk.do(("put", ("b", (), ())))
        desk.do(("put", ("a", (), ())))
        self.assertEqual(desk.design()[0], (("a", (), ()), ("b", (), ()), other))
        self.assertEqual(desk.do(("drop", "count")), 8)
        self.assertEqual(sorted(desk.modules()), ["a", "b"])
        self.assertEqual(desk.acts(), DONE + [("steps", ("moved", "moved")), ("put", other), ("put", ("b", (), ())), ("put", ("a", (), ())), ("drop", "count")])
        desk.modules().clear()
        desk.acts().clear()
        self.assertEqual((len(desk.modules()), len(desk.acts())), (2, 8))

    def test_words(self):
        desk = desk_with(DONE)
        wrong = [
            ("form", [*LOOSE, ("put",), ("put", COUNT, 1), ("drop",), ("top", "count"), ("top", "count", (), 1), ("steps",), ("steps", (), ()), ("fabric",),
                      ["put", COUNT], ("undo",), (["put"], COUNT), (None, 1), deep(("put",), 39)]),
            ("module", [("put", part) for part in [*LOOSE, list(COUNT), COUNT[:2], ("in", (), ()), ("m", ("w", 1), ()), ("m", (), (("in", "a"),)), deep(1, 39)]]),
            ("name", [("drop", part) for part in [*LOOSE, "counts", ("count",)] if part != "count"]),
            ("top", [("top", part, ()) for part in [*LOOSE, "A"] if part != "a"] + [("top", "count", part) for part in (
                None, [], [3], 3, (True,), (-1,), (10**6 + 1,), ("3",), (3, None), ((3,),), {})]),
            ("steps", [("steps", part) for part in (None, [], ["moved"], "moved", ("moves",), ("moved", None), ("moved",) * 9, (("moved",),), ([],), 0)]),
            ("fabric", [("fabric", part) for part in [*LOOSE, (0, 1, 1, 2, 1), list(FABRIC), (1, 1, 1, 2)]]),
        ]
        for word, acts in wrong:
            for act in acts:
                self.assertEqual(desk.act_word(act), word, act)
                self.assertEqual(model_act_word({"count"}, act), word)
                self.fails(BadAct, {"word": word}, desk.do, act)
        self.assertEqual(desk.acts(), DONE)
        for act in [("put", ("m", (), ())), ("drop", "count"), ("top", "other", ()), ("top", "a", (0, 10**6)), ("steps", ()), ("steps", ("moved",) * 8),
                    ("fabric", (16, 16, 60, 6, 8))]:
            self.assertIsNone(desk.act_word(act))

    def test_undo_and_redo(self):
        desk = Desk()
        self.fails(NothingDone, {}, desk.undo)
        self.fails(NothingDone, {}, desk.redo)
        for act in DONE:
            desk.do(act)
        self.fails(NothingDone, {}, desk.redo)
        self.assertEqual((desk.undo(), desk.fabric(), desk.acts()), (2, None, DONE[:2]))
        self.assertEqual((desk.undo(), desk.top()), (1, None))
        # Refused acts and askings take nothing away.
        self.fails(BadAct, {"word": "name"}, desk.do, ("drop", "none"))
        desk.fault()
        self.assertEqual((desk.redo(), desk.redo(), desk.acts()), (2, 3, DONE))
        self.fails(NothingDone, {}, desk.redo)
        desk.undo()
        self.assertEqual(desk.do(("steps", ())), 3)
        self.fails(NothingDone, {}, desk.redo)
        self.assertEqual([desk.undo(), desk.undo(), desk.undo()], [2, 1, 0])
        self.fails(NothingDone, {}, desk.undo)
        self.assertEqual(desk.modules(), {})
        self.assertEqual([desk.redo(), desk.redo(), desk.redo()], [1, 2, 3])
        self.assertIsNone(desk.fabric())


class AskTest(LoomTest):
    def test_all_stages(self):
        desk = desk_with(DONE)
        self.assertIsNone(desk.fault())
        self.assertEqual(desk.work(), ("design", "flat", "graph", "steps", "net", "cells", "laid", "bits"))
        lots = [(1,), (1,), (0,), (1,)]
        self.assertEqual(self.is_new(desk.outputs, lots), [(0,), (1,), (2,), (2,)])
        self.assertEqual(desk.outputs(tuple(lots)), [(0,), (1,), (2,), (2,)])
        self.assertEqual(desk.work(), ())
        machine = desk.machine()
        self.assertEqual([machine.step(lot) for lot in lots], [(0, 0, 0), (1, 0, 0), (0, 1, 0), (0, 1, 0)])
        self.assertEqual(desk.machine().step((1,)), (0, 0, 0))
        self.assertEqual(desk.machine().config(), read_back(desk.bits()).config())
        self.assertEqual(desk.outputs([]), [])

    def test_faults(self):
        desk = Desk()
        for asking in (*ASKINGS, "machine"):
            self.fails(NotReady, {"fault": ("design", "top")}, getattr(desk, asking))
        self.fails(NotReady, {"fault": ("design", "top")}, desk.outputs, [])
        self.assertEqual(desk.work(), ())
        desk.do(("top", "count", (3,)))
        self.assertEqual(desk.fault(), ("design", "top"))
        desk.do(("put", ("m", (), ())))
        self.assertEqual(desk.fault(), ("design", "module", "", (1, 0)))
        desk.do(DONE[0])
        self.assertEqual(desk.fault(), ("net", "fabric"))
        self.assertEqual(desk.flat()[0], (("on", 1),))
        self.assertEqual((desk.shift(), len(desk.graph()[1])), (0, 3))
        self.fails(NotReady, {"fault": ("net", "fabric")}, desk.net)
        desk.do(("fabric", (1, 1, 40, 4, 8)))
        self.assertEqual(desk.fault(), ("laid", "cells"))
        self.assertEqual(desk.net()[0], 4)
        self.assertEqual(desk.cells()[0], 4)
        for asking in ("laid", "bits", "machine"):
            self.fails(NotReady, {"fault": ("laid", "cells")}, getattr(desk, asking))
        desk = desk_with([("put", MODULES[3]), ("top", "m", ())])
        self.assertEqual(desk.fault(), ("design", ("z",)))

    def test_what_is_done_anew(self):
        desk = desk_with(DONE)
        self.assertEqual((desk.flat()[2][0][0], desk.work()), ("r", ("design", "flat")))
        self.assertEqual((desk.shift(), desk.work()), (0, ("graph", "steps")))
        desk.bits()
        self.assertEqual(desk.work(), ("net", "cells", "laid", "bits"))
        # Another name for a wire of no use in the flat design: all behind flat stands.
        items = COUNT[2] + (("wire", "more", ("number", 1)), ("drive", ("name", "more"), ("name", "on")))
        desk.do(("put", (*COUNT[:2], items)))
        desk.bits()
        self.assertEqual(desk.work(), ("design", "flat"))
        # Steps that leave the same graph.
        desk.do(("steps", ("merged",)))
        desk.bits()
        self.assertEqual(desk.work(), ("steps",))
        # Another fabric of the same k.
        desk.do(("fabric", (6, 5, 40, 4, 2)))
        desk.bits()
        self.assertEqual(desk.work(), ("laid", "bits"))
        desk.do(("fabric", (6, 5, 40, 3, 2)))
        desk.bits()
        self.assertEqual(desk.work()[0], "net")
        # What is kept is kept through undo: only what was made last.
        desk.undo()
        desk.bits()
        self.assertEqual(desk.work()[0], "net")
        self.assertEqual(desk.work(), desk.work())
        # Refused askings keep nothing, and the work stays.
        desk.do(("fabric", (1, 1, 1, 4, 1)))
        work = desk.work()
        for _ in range(2):
            self.fails(NotReady, {"fault": ("laid", "cells")}, desk.laid)
            self.assertEqual(desk.work(), work)
        # A fault that was found is kept, in the place of what was made before.
        self.assertEqual((desk.fault(), desk.work()), (("laid", "cells"), ("laid",)))
        self.assertEqual((desk.fault(), desk.work()), (("laid", "cells"), ()))
        desk.undo()
        self.assertEqual((desk.fault(), desk.work()), (None, ("laid",)))
        desk.do(("drop", "count"))
        self.assertEqual((desk.fault(), desk.work()), (("design", "top"), ("design",)))
        desk.undo()
        self.assertEqual((desk.fault(), desk.work()), (None, ("design",)))

    def test_twins(self):
        desk = desk_with(DONE)
        desk.bits()
        desk.undo()
        twin = desk.twin()
        self.assertEqual((twin.acts(), twin.work(), twin.design()), (desk.acts(), desk.work(), desk.design()))
        self.assertEqual(twin.redo(), 3)
        self.assertEqual((twin.fault(), twin.work()), (None, ()))
        self.assertEqual((desk.fabric(), desk.work()), (None, ("design", "flat", "graph", "steps", "net", "cells", "laid", "bits")))
        desk.do(("put", ("m", (), ())))
        self.fails(NothingDone, {}, desk.redo)
        self.assertEqual(twin.undo(), 2)
        self.assertEqual(twin.redo(), 3)
        self.assertEqual(sorted(twin.modules()), ["count"])

    def test_beside_a_plain_model(self):
        dice = random.Random(1)
        faults = set()
        asked = {name: 0 for name in UP_TO}
        for k in range(60):
            desk, model = Desk(), ModelDesk()
            for act in [("put", MODULES[6]), ("put", MODULES[2]), ("top", "m", ()), ("fabric", FABRICS[1])] if k % 2 else []:
                desk.do(act)
                model.do(act)
            for _ in range(40):
                kind = dice.randrange(12)
                if kind < 6:
                    act = random_act(dice)
                    word = model_act_word(model.stand()[0], act)
                    self.assertEqual(desk.act_word(act), word)
                    if word:
                        self.fails(BadAct, {"word": word}, desk.do, act)
                    else:
                        model.do(act)
                        self.assertEqual(desk.do(act), len(model.done))
                elif kind < 8:
                    name = dice.choice(["undo", "undo", "redo"])
                    if model.done if name == "undo" else model.left:
                        getattr(model, name)()
                        self.assertEqual(getattr(desk, name)(), len(model.done))
                    else:
                        self.fails(NothingDone, {}, getattr(desk, name))
                elif kind == 8:
                    desk = desk.twin()
                else:
                    asking, fault = self.ask(dice, desk, model)
                    faults.add(fault)
                    asked[asking] += fault is None
                modules, top, steps, fabric = model.stand()
                self.assertEqual((desk.modules(), desk.top(), desk.steps(), desk.fabric()), (modules, top, steps, fabric))
                self.assertEqual((desk.design(), desk.acts(), desk.work()), (model.design(), model.done, model.work))
        self.assertLessEqual({None, ("design", "top"), ("net", "fabric"), ("laid", "cells"), ("design", ("z",))}, faults)
        self.assertGreater(min(asked.values()), 5, asked)

    def ask(self, dice, desk, model):
        """Ask both the same; return what was asked, and the fault."""
        asking = dice.choice(list(UP_TO))
        ahead = model.work
        fault, told = model.ask(asking)
        lots = random_lots(dice, in_widths(told["flat"]), 5) if "flat" in told else []
        passed = [lots] if asking == "outputs" else []
        if asking == "fault":
            self.assertEqual(desk.fault(), fault)
        elif fault:
            self.fails(NotReady, {"fault": fault}, getattr(desk, asking), *passed)
            self.assertEqual(desk.work(), ahead)
        elif asking == "outputs":
            noughts = [(0,) * len(told["flat"][0])] * told["steps"][1]
            self.assertEqual(desk.outputs(lots), outputs(told["flat"], noughts + lots)[len(noughts):])
        elif asking == "machine":
            self.assertEqual(desk.machine().config(), read_back(told["bits"]).config())
        else:
            place = {"graph": 0, "shift": 1}.get(asking)
            made = told[UP_TO[asking]]
            self.assertEqual(getattr(desk, asking)(), made if place is None else made[place])
        # As a desk made anew tells it.
        other = Desk()
        for act in model.done:
            other.do(act)
        self.assertEqual(other.fault(), desk.twin().fault())
        return asking, fault


if __name__ == "__main__":
    unittest.main()
