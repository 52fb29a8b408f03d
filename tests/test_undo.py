import random
import unittest

from harvestcarts.errors import InvalidNumber, InvalidOperation, UnknownField
from harvestcarts.farms import Farm
from harvestcarts.live import LiveFarm, Trial

FARM = Farm(("a", 2), ("b", 3), ("c", 7))
# Lists of operations of which one raises an error, with this error.
WRONG_LISTS = [([("wait", 1), ("harvest", "d")], UnknownField), ([("undo",), ("wait", 1001)], InvalidNumber),
               ([("undo",), ("undo",), ("change_limit", "a", 31)], InvalidNumber),
               ([("redo",), ("change_limit", "d", 31), ("wait", 1)], UnknownField),
               ([("harvest", "b"), ("wait", True)], InvalidNumber)]
# Operations that do not have their form.
WRONG_FORMS = [(), ("harvest",), ("harvest", "a", "b"), ("wait",), ("wait", 1, 2), ("change_limit", "a"),
               ("change_limit",), ("change_limit", "a", 2, 3), ("undo", 1), ("redo", "a"), ("plough", "a"), ("Undo",),
               ("", 1), (1,), (None, 1), ("apply_all", []), ("tried", []), ("now",), ("replay",), ("_run", ("undo",))]


def state_of(live):
    """All that a live farm tells."""
    return (live.now, live.days_left, live.limits_now, live.rotten, live.history)


def whole_state_of(live):
    """All that a live farm tells, also behind each undo and each redo, which are taken back in the end."""
    states = [state_of(live)]
    undone = 0
    while live.undo():
        undone += 1
        states.append(state_of(live))
    redone = 0
    while live.redo():
        redone += 1
        states.append(state_of(live))
    for _ in range(redone - undone):
        live.undo()
    return states


class Ledger:
    """A live farm of the tests' own, which goes through all operations from day 0 on for each state."""

    def __init__(self, farm):
        self.farm = farm
        self.done = []
        self.undone = []

    def run(self, operation):
        if operation in (("undo",), ("redo",)):
            one, other = (self.done, self.undone) if operation == ("undo",) else (self.undone, self.done)
            if one:
                other.append(one.pop())
                return True
            return False
        self.done.append(operation)
        self.undone = []
        return self.state()[1]

    def state(self):
        """The state as in state_of, and the result of the last operation."""
        limits = dict(self.farm.fields)
        due = {name: limits[name] - 1 for name in limits}
        today = 0
        harvested = set()
        rotten = []
        result = None
        for word, *more in self.done:
            if word == "harvest":
                result = more[0] not in harvested
                harvested.add(more[0])
            elif word == "change_limit":
                name, limit = more
                result = limits[name]
                limits[name] = limit
                due[name] = min(due[name], today + limit - 1)
            else:
                result = []
                for _ in range(more[0]):
                    late = [name for name in limits if due[name] == today and name not in harvested]
                    result.extend((today, name) for name in late)
                    for name in [*harvested, *late]:
                        due[name] = today + limits[name]
                    harvested = set()
                    today += 1
                rotten = rotten + result
        left = {name: due[name] - today + 1 for name in limits}
        return (today, left, limits, rotten, list(self.done)), result


def some_operation(chance):
    return chance.choice([("undo",), ("undo",), ("redo",), ("redo",), ("wait", chance.randrange(5)),
                          ("harvest", chance.choice("abc")), ("harvest", chance.choice("abc")),
                          ("change_limit", chance.choice("abc"), chance.randrange(1, 9))])


class UndoTestCase(unittest.TestCase):

    def setUp(self):
        self.live = LiveFarm(FARM)

    def assert_raises_without_changes(self, error, call, *args):
        before = whole_state_of(self.live)
        with self.assertRaises(error) as caught:
            call(*args)
        self.assertEqual(whole_state_of(self.live), before, args)
        return caught.exception

    def work_a_little(self):
        """Leave the live farm with three operations in effect and two that can be redone."""
        self.live.apply_all([("harvest", "a"), ("wait", 2), ("change_limit", "b", 4), ("wait", 5), ("harvest", "c"),
                             ("undo",), ("undo",)])


class ManyOperationsTest(UndoTestCase):

    def test_as_the_ledger(self):
        chance = random.Random(14)
        for _ in range(60):
            live = LiveFarm(FARM)
            ledger = Ledger(FARM)
            for _ in range(25):
                operation = some_operation(chance)
                word, *more = operation
                self.assertEqual(getattr(live, word)(*more), ledger.run(operation), ledger.done)
                self.assertEqual(state_of(live), ledger.state()[0])

    def test_lists_of_operations_as_the_ledger(self):
        chance = random.Random(41)
        for _ in range(60):
            live = LiveFarm(FARM)
            ledger = Ledger(FARM)
            for _ in range(6):
                operations = [some_operation(chance) for _ in range(chance.randrange(6))]
                before = whole_state_of(live)
                tried = live.tried(operations)
                self.assertEqual(whole_state_of(live), before)
                self.assertEqual(live.apply_all(operations), tried)
                self.assertEqual([ledger.run(operation) for operation in operations], tried)
                self.assertEqual(state_of(live), ledger.state()[0])


class UndoRedoTest(UndoTestCase):

    def test_nothing_to_undo_or_redo(self):
        self.assertIs(self.live.undo(), False)
        self.assertIs(self.live.redo(), False)
        self.live.wait(1)
        self.assertIs(self.live.redo(), False)
        self.assertIs(self.live.undo(), True)
        self.assertIs(self.live.undo(), False)
        self.assertEqual(state_of(self.live), state_of(LiveFarm(FARM)))

    def test_each_kind_of_operation(self):
        for operation in [("harvest", "a"), ("wait", 9), ("wait", 0), ("change_limit", "c", 2)]:
            live = LiveFarm.replay(FARM, ("harvest", "b"), ("wait", 1))
            before = state_of(live)
            live.apply_all([operation])
            after = state_of(live)
            self.assertIs(live.undo(), True)
            self.assertEqual(state_of(live), before)
            self.assertIs(live.redo(), True)
            self.assertEqual(state_of(live), after)

    def test_an_undone_harvest_can_be_done_again(self):
        self.live.harvest("a")
        self.live.undo()
        self.assertIs(self.live.harvest("a"), True)
        self.live.harvest("a")
        self.live.undo()
        self.assertIs(self.live.harvest("a"), False)

    def test_the_last_one_first(self):
        self.live.apply_all([("harvest", "a"), ("wait", 1), ("change_limit", "b", 9)])
        histories = []
        while self.live.undo():
            histories.append(self.live.history)
        while self.live.redo():
            histories.append(self.live.history)
        all_operations = [("harvest", "a"), ("wait", 1), ("change_limit", "b", 9)]
        self.assertEqual(histories, [all_operations[:count] for count in (2, 1, 0, 1, 2, 3)])

    def test_an_operation_ends_what_can_be_redone(self):
        for operation in [("harvest", "c"), ("wait", 0), ("change_limit", "c", 7)]:
            live = LiveFarm.replay(FARM, ("wait", 1), ("wait", 2), ("undo",), ("undo",), operation)
            self.assertIs(live.redo(), False)
            self.assertEqual(live.history, [operation])

    def test_undo_and_redo_do_not_end_what_can_be_redone(self):
        self.live.apply_all([("wait", 1), ("wait", 2), ("wait", 3), ("undo",), ("undo",), ("redo",), ("undo",)])
        self.assertEqual([self.live.redo(), self.live.redo(), self.live.redo()], [True, True, False])
        self.assertEqual(self.live.now, 6)

    def test_errors_do_not_end_what_can_be_redone(self):
        self.work_a_little()
        for call, args, error in [(self.live.wait, (-1,), InvalidNumber), (self.live.harvest, ("d",), UnknownField),
                                  (self.live.change_limit, ("d", 0), UnknownField),
                                  (self.live.change_limit, ("a", 0), InvalidNumber)]:
            self.assert_raises_without_changes(error, call, *args)
        self.assertEqual([self.live.redo(), self.live.redo(), self.live.redo()], [True, True, False])
        self.assertEqual(self.live.history[3:], [("wait", 5), ("harvest", "c")])

    def test_readings_do_not_end_what_can_be_redone(self):
        self.work_a_little()
        state_of(self.live)
        self.assertIs(self.live.redo(), True)

    def test_many_operations(self):
        for _ in range(3000):
            self.live.wait(1)
        while self.live.undo():
            pass
        self.assertEqual(state_of(self.live), state_of(LiveFarm(FARM)))
        while self.live.redo():
            pass
        self.assertEqual((self.live.now, len(self.live.history)), (3000, 3000))


class ApplyAllTest(UndoTestCase):

    def test_results(self):
        operations = [("harvest", "a"), ("harvest", "a"), ("wait", 3), ("change_limit", "a", 5), ("undo",), ("redo",),
                      ("redo",), ("undo",)]
        self.assertEqual(self.live.apply_all(operations),
                         [True, False, [(2, "a"), (2, "b")], 2, True, True, False, True])
        self.assertEqual(self.live.history, operations[:3])

    def test_no_operations(self):
        self.work_a_little()
        before = whole_state_of(self.live)
        self.assertEqual(self.live.apply_all([]), [])
        self.assertEqual(whole_state_of(self.live), before)

    def test_undoes_and_redoes_what_was_before(self):
        self.live.wait(2)
        self.assertEqual(self.live.apply_all([("undo",), ("undo",), ("redo",)]), [True, False, True])
        self.assertEqual(self.live.now, 2)

    def test_operations_are_undone_one_by_one(self):
        self.live.apply_all([("wait", 1), ("wait", 2)])
        self.assertIs(self.live.undo(), True)
        self.assertEqual(self.live.now, 1)

    def test_wrong_forms(self):
        self.work_a_little()
        for form in WRONG_FORMS:
            for operations, index in [([form], 0), ([("wait", 1), form, ("undo", 1)], 1),
                                      ([("undo",), ("redo",), ("harvest", "d"), form], 3)]:
                for call in [self.live.apply_all, self.live.tried]:
                    error = self.assert_raises_without_changes(InvalidOperation, call, operations)
                    self.assertEqual(error.index, index, operations)

    def test_errors_of_operations(self):
        self.work_a_little()
        for operations, error in WRONG_LISTS:
            for call in [self.live.apply_all, self.live.tried]:
                self.assert_raises_without_changes(error, call, operations)

    def test_attributes_of_the_errors_of_operations(self):
        for call in [self.live.apply_all, self.live.tried]:
            error = self.assert_raises_without_changes(UnknownField, call, [("wait", 1), ("harvest", "barley")])
            self.assertEqual(error.name, "barley")

    def test_the_list_is_neither_modified_nor_kept(self):
        operations = [("wait", 1), ("undo",), ("harvest", "a")]
        self.live.apply_all(operations)
        self.live.tried(operations)
        self.assertEqual(operations, [("wait", 1), ("undo",), ("harvest", "a")])
        operations.clear()
        self.assertEqual(self.live.history, [("harvest", "a")])

    def test_results_are_not_kept(self):
        results = self.live.apply_all([("wait", 3)])
        results[0].clear()
        self.assertEqual(self.live.rotten, [(1, "a"), (2, "b")])
        self.assertEqual(self.live.apply_all([("undo",), ("redo",)]), [True, True])
        self.assertEqual(self.live.rotten, [(1, "a"), (2, "b")])

    def test_a_history_can_be_applied(self):
        self.work_a_little()
        other = LiveFarm(FARM)
        other.apply_all(self.live.history)
        self.assertEqual(state_of(other), state_of(self.live))

    def test_keyword_arguments(self):
        self.assertEqual(self.live.tried(operations=[("wait", 1)]), self.live.apply_all(operations=[("wait", 1)]))


class ReplayTest(UndoTestCase):

    def test_no_operations(self):
        self.assertEqual(state_of(LiveFarm.replay(FARM)), state_of(self.live))

    def test_a_history(self):
        self.work_a_little()
        history = self.live.history
        live = LiveFarm.replay(FARM, *history)
        self.assertIsInstance(live, LiveFarm)
        self.assertEqual(state_of(live), state_of(self.live))
        self.assertIs(live.redo(), False)

    def test_undo_and_redo(self):
        live = LiveFarm.replay(FARM, ("wait", 2), ("undo",), ("redo",), ("wait", 3), ("undo",))
        self.assertEqual((live.now, live.history), (2, [("wait", 2)]))
        self.assertIs(live.redo(), True)

    def test_each_is_of_its_own(self):
        one, other = LiveFarm.replay(FARM, ("wait", 1)), LiveFarm.replay(FARM, ("wait", 1))
        one.wait(1)
        self.assertEqual(other.now, 1)

    def test_errors(self):
        with self.assertRaises(InvalidOperation) as caught:
            LiveFarm.replay(FARM, ("wait", 1001), ("undo",), ("plough", "a"))
        self.assertEqual(caught.exception.index, 2)
        with self.assertRaises(UnknownField) as caught:
            LiveFarm.replay(FARM, ("wait", 1), ("harvest", "d"))
        self.assertEqual(caught.exception.name, "d")
        with self.assertRaises(InvalidNumber):
            LiveFarm.replay(FARM, ("change_limit", "a", 31))


class TrialTest(UndoTestCase):

    def test_the_live_farm_is_as_it_was(self):
        for operations in [[("wait", 3)], [("undo",)], [("redo",)], [("undo",)] * 4, [("redo",)] * 3,
                           [("undo",), ("harvest", "a"), ("change_limit", "a", 9)], []]:
            self.live = LiveFarm(FARM)
            self.work_a_little()
            before = whole_state_of(self.live)
            with Trial(self.live):
                self.live.apply_all(operations)
                for word, *more in operations:
                    getattr(self.live, word)(*more)
            self.assertEqual(whole_state_of(self.live), before, operations)

    def test_operations_have_their_effect_in_the_block(self):
        self.work_a_little()
        with Trial(self.live):
            self.assertEqual(self.live.wait(1), [(2, "a"), (2, "b")])
            self.assertEqual((self.live.now, self.live.redo()), (3, False))
        self.assertEqual((self.live.now, self.live.redo()), (2, True))

    def test_an_error_leaves_the_block(self):
        self.work_a_little()
        before = whole_state_of(self.live)
        for error in [UnknownField, KeyError]:
            with self.assertRaises(error):
                with Trial(self.live):
                    self.live.undo()
                    self.live.wait(1)
                    if error is KeyError:
                        raise KeyError("a")
                    self.live.harvest("d")
            self.assertEqual(whole_state_of(self.live), before)

    def test_it_begins_with_the_block(self):
        trial = Trial(self.live)
        self.live.wait(1)
        with trial:
            self.live.wait(1)
        self.assertEqual(self.live.history, [("wait", 1)])
        self.live.wait(3)
        with trial:
            self.live.undo()
        self.assertEqual(self.live.history, [("wait", 1), ("wait", 3)])

    def test_a_block_in_a_block(self):
        self.work_a_little()
        before = whole_state_of(self.live)
        with Trial(self.live):
            self.live.undo()
            self.live.wait(1)
            inner = whole_state_of(self.live)
            with Trial(self.live):
                self.live.apply_all([("undo",), ("undo",), ("wait", 9)])
            self.assertEqual(whole_state_of(self.live), inner)
        self.assertEqual(whole_state_of(self.live), before)

    def test_other_live_farms_go_on(self):
        other = LiveFarm(FARM)
        with Trial(self.live):
            other.wait(2)
        self.assertEqual((self.live.now, other.now), (0, 2))


class TriedTest(UndoTestCase):

    def test_results(self):
        self.work_a_little()
        before = whole_state_of(self.live)
        operations = [("redo",), ("undo",), ("undo",), ("wait", 2), ("redo",)]
        self.assertEqual(self.live.tried(operations), [True, True, True, [(2, "a"), (2, "b")], False])
        self.assertEqual(whole_state_of(self.live), before)
        self.assertEqual(self.live.tried(operations), self.live.tried(operations))

    def test_no_operations(self):
        self.assertEqual(self.live.tried([]), [])


class UndoExamplesTest(UndoTestCase):

    def test_undo(self):
        self.live.wait(2)
        self.assertEqual([self.live.undo(), self.live.now, self.live.undo()], [True, 0, False])

    def test_redo(self):
        self.live.wait(2)
        self.live.undo()
        self.assertEqual([self.live.redo(), self.live.rotten], [True, [(1, "a")]])

    def test_apply_all(self):
        self.assertEqual(self.live.apply_all([("harvest", "a"), ("wait", 1)]), [True, []])
        with self.assertRaises(InvalidOperation) as caught:
            LiveFarm(FARM).apply_all([("harvest",)])
        self.assertEqual(caught.exception.index, 0)

    def test_tried(self):
        self.assertEqual([self.live.tried([("wait", 2)]), self.live.now], [[[(1, "a")]], 0])

    def test_replay(self):
        live = LiveFarm.replay(FARM, ("harvest", "b"), ("wait", 1))
        self.assertEqual([live.days_left, live.history],
                         [{"a": 1, "b": 3, "c": 6}, [("harvest", "b"), ("wait", 1)]])


if __name__ == "__main__":
    unittest.main()
