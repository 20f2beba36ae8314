"""The examples of the document's interface, of recovery, keeper, machines, air, world, checker, scripts, house and desk, with the answers that stand there."""

import unittest

from effectonce.air import doubled, for_whom, taken_out
from effectonce.checker import (have_all_ended, judge_ends, judge_store, judge_why_now, ready_now, told_outcomes, waited_for, why_now)
from effectonce.desk import Desk
from effectonce.disks import written
from effectonce.errors import BadDisk, BadText
from effectonce.house import House
from effectonce.keeper import (bars_now, grants_now, idle_machines, keeper_again, keeper_back, keeper_does, keeper_hears, keeper_lapses, known_free,
                               known_outcome, known_results, new_keeper)
from effectonce.machines import (end_letter, fresh_machine, machine_again, machine_changed, machine_hears, machine_put_away, machine_stepped, machine_tells,
                                 machine_took, machine_works, open_works, steps_missing)
from effectonce.recovery import kept_letters, recovered_keeper, recovered_machine, recovered_store
from effectonce.scripts import event_text, read_event, read_script, script_text
from effectonce.world import (after, calm, judge_world, left_over, new_world, outcomes_now, played, who_is_down)


class RecoveryExample(unittest.TestCase):
    def test_recovery(self):
        told = ((), (("a", "all", (), ("value", 1), (), 1, 1, 0, 0),))
        late = written("", [("tick",), (1, ("take", 1)), ("tick",), (2, ("grant", 1, "a", 1, 0))])
        self.assertEqual(
            [recovered_store(told, late)["time"], recovered_store(told, late)["holds"], recovered_store(told, late[:-1])["holds"], kept_letters(late)],
            [2, {'a': (1, 0, 1, 2, 2)}, {}, (('take', 1), ('grant', 1, 'a', 1, 0))])
        self.assertEqual([recovered_keeper(written("", [("epoch", 1), ("epoch", 4)])), recovered_keeper("")], [4, 0])
        with self.assertRaises(BadDisk) as caught:
            recovered_store(told, written("", [(1, ("take", 1))]))
        self.assertEqual(caught.exception.place, 0)
        # [8.5] in the same way.
        self.assertEqual(recovered_machine(3, written("", [("took", "a", 1, 1, ()), ("step", 1, 1)])), {"machine": 3, "works": {1: ("a", 1, (), 1)}, "gone": ()})


class KeeperExample(unittest.TestCase):
    A = ("a", "all", (), ("value", 2), (("hall", 1),), 1, 1, 0, 0)
    B = ("b", "all", ("a",), ("plus", ("result", "a"), ("value", 1)), (), 1, 1, 0, 0)
    C = ("c", "all", (), ("value", 7), (("hall", 1),), 2, 1, 0, 5)

    def test_the_way_of_a_keeper(self):
        told = ((("hall", 1),), (self.A, self.B, self.C))
        keeper, kept, letters = keeper_back(told, 2, 0)
        self.assertEqual(
            [kept, letters, keeper == new_keeper(told, 2, 1), keeper["phase"], keeper["open"], keeper_does(keeper)[1]],
            [(('epoch', 1),), (('take', 1),), True, 'take', (('take', 1),), ()])
        keeper, letters = keeper_hears(keeper, ("taken", 1))
        keeper, more = keeper_hears(keeper, ("told", 1, 1, 0, 0, (), (), ()))
        self.assertEqual(
            [letters, more, keeper["phase"], grants_now(keeper), bars_now(keeper), known_free(keeper), idle_machines(keeper)],
            [(('ask', 1),), (), 'run', (('grant', 1, 'c', 1, 0),), (), (('hall', 1),), (0, 1)])
        keeper, letters = keeper_does(keeper)
        self.assertEqual(
            [letters, keeper["fence"], known_free(keeper), idle_machines(keeper), keeper_does(keeper)[1]],
            [(('grant', 1, 'c', 1, 0), ('ask', 1)), 1, (('hall', 0),), (1,), ()])
        keeper, letters = keeper_hears(keeper, ("granted", 1, "c", 1, 0, 1, ()))
        self.assertEqual(
            [letters, keeper["holds"], keeper_again(keeper), keeper_hears(keeper, ("granted", 1, "c", 1, 0, 1, ()))[1]],
            [(('work', 1, 0, 'c', 1, 1, ()),), (('c', (1, 0, 1)),), (('ask', 1), ('work', 1, 0, 'c', 1, 1, ())), ()])
        self.assertEqual(
            [keeper_lapses(keeper, "c")[1], keeper_lapses(keeper, "a")[1], keeper_hears(keeper, ("taken", 2)) == (keeper, ())],
            [(('free', 1, 'c', 1),), (), True])
        ends = (("a", (("done", 2, 4, 0, 5, 2),)), ("c", (("done", 1, 2, 0, 3, 7),)))
        keeper = keeper_hears(keeper, ("told", 1, 5, 0, 2, (), ends, ()))[0]
        self.assertEqual(
            [known_outcome(keeper, "c"), known_outcome(keeper, "b"), known_results(keeper, "b"), keeper["fence"], keeper_does(keeper)[1]],
            ['done', None, (('a', 2),), 2, (('grant', 1, 'b', 3, 0), ('ask', 1))])


class MachinesExample(unittest.TestCase):
    def test_the_way_of_a_machine(self):
        told = ((), (("a", "all", (), ("value", 5), (), 2, 2, 0, 0), ("b", "all", ("a",), ("plus", ("result", "a"), ("attempt",)), (), 1, 1, 0, 0)))
        machine, letters, kept = machine_hears(fresh_machine(3), told, ("work", 1, 3, "b", 7, 1, (("a", 5),)))
        self.assertEqual(
            [machine, letters, kept],
            [{'machine': 3, 'works': {7: ('b', 1, (('a', 5),), 0)}, 'gone': ()}, (), (('took', 'b', 7, 1, (('a', 5),)),)])
        machine = machine_hears(machine, told, ("work", 1, 3, "a", 9, 1, ()))[0]
        self.assertEqual(
            [machine_hears(machine, told, ("work", 2, 3, "a", 9, 2, ()))[0] == machine, open_works(machine, told), steps_missing(machine, told)],
            [True, (7, 9), 3])
        machine, letters, kept = machine_works(machine, told)
        self.assertEqual(
            [letters, kept, open_works(machine, told), machine_tells(machine, told)[1] == letters],
            [(('end', 3, 'b', 7, 1, ('done', 6)),), (('step', 7, 1),), (9,), True])
        self.assertEqual(machine_hears(machine, told, ("work", 1, 3, "b", 7, 1, (("a", 5),)))[1:], ((('end', 3, 'b', 7, 1, ('done', 6)),), ()))
        machine, letters, kept = machine_works(machine, told)
        self.assertEqual([letters, kept, end_letter(machine, told, 9)], [(), (('step', 9, 1),), ('end', 3, 'a', 9, 1, ('done', 5))])
        machine, letters, kept = machine_hears(machine, told, ("ended", 3, "b", 7))
        self.assertEqual(
            [kept, machine["gone"], machine_hears(machine, told, ("work", 1, 3, "b", 7, 1, (("a", 5),)))[0] == machine],
            [(('gone', 7),), (7,), True])
        self.assertTrue(machine_again(3, [("took", "a", 9, 1, ()), ("step", 9, 1), ("gone", 7)]) == machine)
        self.assertEqual(
            [machine_took(machine, "a", 9, 2, ()) == machine, machine_stepped(machine, 9, 0) == machine, machine_put_away(machine, 8)["gone"],
             machine_changed(machine, ("gone", 9))["works"]],
            [True, True, (7, 8), {}])


class AirExample(unittest.TestCase):
    def test_air(self):
        air = (("take", 1), ("ended", 5, "a", 3), ("ask", 1))
        self.assertEqual(
            [taken_out(air, 4), taken_out((), 4), doubled(air, 0)[3:], for_whom(air, ("store",))],
            [(('ended', 5, 'a', 3), (('take', 1), ('ask', 1))), (None, ()), (('take', 1),), (('take', 1), ('ask', 1))])


class WorldExample(unittest.TestCase):
    A = ("a", "all", (), ("value", 2), (), 1, 1, 0, 0)
    B = ("b", "all", ("a",), ("plus", ("result", "a"), ("attempt",)), (), 2, 3, 0, 0)
    C = ("c", "all", (), ("demand", ("value", 0), ("value", 1)), (), 1, 2, 0, 0)
    D = ("d", "all", ("b", "c"), ("value", 7), (), 1, 1, 0, 0)

    def test_world(self):
        first = new_world(((), (self.A, self.B, self.C, self.D)), 2)
        self.assertEqual([first["air"], outcomes_now(first), left_over(first), who_is_down(first)], [(('take', 1),), (), ('a', 'b', 'c', 'd'), []])
        late = calm(first)[0]
        self.assertEqual(
            [outcomes_now(late), left_over(late), judge_world(late), calm(late)[1]],
            [(('a', ('done', 1, 2)), ('b', ('done', 1, 3)), ('c', ('failed', 2)), ('d', ('barred', 'c'))), (), None, 0])
        fallen = played(first, [("hear", 0), ("fall", ("keeper",)), ("torn", ("tick",), 3), ("lose", 0)])
        self.assertEqual(
            [who_is_down(fallen), fallen["air"], judge_world(fallen), outcomes_now(calm(fallen)[0]) == outcomes_now(late)],
            [[('store',), ('keeper',)], (), None, True])
        self.assertEqual(after(first, ("hear", 0)), played(first, [("hear", 0)]))


class CheckerExample(unittest.TestCase):
    A = ("a", "all", (), ("value", 2), (("hall", 1),), 1, 1, 0, 0)
    B = ("b", "all", ("a",), ("plus", ("result", "a"), ("value", 1)), (), 1, 1, 4, 0)
    C = ("c", "all", (), ("value", 7), (("hall", 1),), 2, 1, 0, 5)

    def test_checker(self):
        told = ((("hall", 1),), (self.A, self.B, self.C))
        store = {"book": told, "time": 3, "epoch": 1, "moment": 4, "fence": 2, "holds": {"a": (2, 0, 1, 4, 3)}, "ends": {"c": (("done", 1, 2, 0, 3, 7),)},
                 "barred": {}, "freed": ()}
        self.assertEqual([judge_store(store), told_outcomes(store), have_all_ended(store), judge_ends(store)], [None, (('c', ('done', 1, 7)),), False, None])
        self.assertEqual(
            [why_now(store, "c"), why_now(store, "a"), why_now(store, "b"), ready_now(store), waited_for(store)],
            [('done', 1, 1, 7, ()), ('held', 2, 0, 1), ('needs', ('a',)), (), (('a', 1),)])
        self.assertEqual(
            [judge_why_now(store, "b", ("needs", ("a",))), judge_why_now(store, "b", ("may",)), judge_why_now(store, "c", None)],
            [None, ('not', 'needs'), ('not', 'done')])
        bad = dict(list(store.items()) + [("holds", {"a": (2, 0, 1, 2, 3)})])
        self.assertEqual(
            [judge_store(bad), judge_store(dict(list(store.items()) + [("fence", 1)])),
             judge_store(dict(list(store.items()) + [("holds", {"b": (2, 0, 1, 4, 3)})]))],
            [('units', 'hall', 2), ('fence', 2), ('early', 'b')])
        late = dict(list(store.items()) + [("holds", {}), ("ends", {"a": (("done", 2, 4, 3, 5, 2),), "c": store["ends"]["c"]})])
        self.assertEqual([why_now(late, "b"), judge_store(late), judge_ends(late)], [('time', 4), None, None])


class ScriptsExample(unittest.TestCase):
    def test_scripts(self):
        self.assertEqual(
            [event_text(("fall", ("machine", 1))), event_text(("torn", ("back", ("keeper",)), 0)), event_text(("lapse", "a")), script_text([])],
            ['fall machine 1', 'torn 0 back keeper', 'lapse a', ''])
        self.assertEqual(
            [read_event("hear 3"), read_script("tick\nback store\ntorn 12 work 0")],
            [('hear', 3), [('tick',), ('back', ('store',)), ('torn', ('work', 0), 12)]])
        with self.assertRaises(BadText) as caught:
            read_event("torn 3 lose 1")
        self.assertEqual(caught.exception.place, 7)


class HouseAndDeskExample(unittest.TestCase):
    BOOK = ((), (("a", "all", (), ("value", 2), (), 1, 1, 0, 0), ("b", "all", ("a",), ("plus", ("result", "a"), ("attempt",)), (), 2, 3, 0, 0)))

    def test_house(self):
        house = House(self.BOOK, 1)
        self.assertEqual(
            [house.left(), house.why("b"), house.do(("calm",)), house.outcomes(), house.left(), house.held(), house.right()],
            [('a', 'b'), ('needs', ('a',)), 1, (('a', ('done', 1, 2)), ('b', ('done', 1, 3))), (), (), True])
        self.assertEqual(
            [house.undo(), house.outcomes(), house.redo(), house.do(("fall", ("machine", 0))), house.down(), len(house.deeds())],
            [0, (), 1, 2, [('machine', 0)], 2])

    def test_desk(self):
        desk = Desk(self.BOOK, 1)
        self.assertEqual(
            [desk.say("why b"), desk.say("left"), desk.say("outcomes"), desk.say("calm"), desk.say("outcomes").split("\n"), desk.say("right")],
            ['needs a', 'a, b', 'nothing', '1', ['a done 1 2', 'b done 1 3'], 'yes'])
        self.assertEqual(
            [desk.say("fall machine 0"), desk.say("down"), desk.say("undo"), desk.say("redo"), desk.say("redo"), desk.say("fall machine 1"), desk.say(None)],
            ['2', 'machine 0', '1', '2', 'refused', 'what', 'what'])
        self.assertEqual(desk.say("book").split("\n")[1], 'job a all needs - uses - length 1 tries 1 start 0 urgency 0 does 2')


if __name__ == "__main__":
    unittest.main()
