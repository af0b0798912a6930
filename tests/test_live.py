"""Point 13: live lines, tick by tick."""

import unittest

from bucketline.errors import InvalidNumber, UnknownPerson
from bucketline.lines import Line
from bucketline.live import LiveLine
from bucketline.texts import parse_schedule, schedule
from tests.cases import Case, all_of, line_of, readings, some_paces

NO_TICKS = (-1, 10001, 10 ** 18, True, False, "5", None)
NO_PACES = (0, -1, 1001, True, False, "5", None)


class WatchedLineTest(Case):
    """Live lines in which nobody is trained or pauses, against the other modules."""

    def test_everybody_holds_a_bucket_as_the_line_tells(self):
        for paces in some_paces(1, seed=77):
            line = line_of(*paces)
            live = LiveLine(line)
            held_from = {name: {} for name in line.names}
            while live.arrived < 6:
                for name, bucket in live.holding.items():
                    if bucket is not None:
                        held_from[name].setdefault(bucket, live.now)
                come = live.wait(1)
                for bucket in range(live.arrived - come, live.arrived):
                    held_from[line.names[-1]][bucket] = live.now
            for name in line.names:
                for bucket in range(6):
                    self.assertEqual(held_from[name][bucket], line(bucket, name), (paces, bucket, name))

    def test_a_bucket_is_held_until_it_is_handed_on(self):
        for paces in some_paces(1, seed=78)[::3]:
            line = line_of(*paces)
            live = LiveLine(line)
            for tick in range(120):
                for ahead, behind in zip(line.names, line.names[1:]):
                    held = [bucket for bucket in range(120)
                            if line(bucket, ahead) <= tick < line(bucket, behind)]
                    self.assertEqual([live.holding[ahead]], held or [None])
                self.assertIsNone(live.holding[line.names[-1]])
                live.wait(1)

    def test_schedules(self):
        for paces in some_paces(1, seed=79)[::2]:
            line = line_of(*paces)
            names, ticks = parse_schedule(schedule(line, 8))
            self.assertEqual(names, list(line.names))
            for bucket, row in enumerate(ticks):
                for name, tick in zip(names, row):
                    self.assertEqual(tick, line(bucket, name))
                    live = LiveLine.replay(line, ("wait", tick))
                    if name == names[-1]:
                        self.assertEqual(live.arrived, bucket + 1)
                    else:
                        self.assertEqual(live.holding[name], bucket)
                    if tick > 0:
                        live = LiveLine.replay(line, ("wait", tick - 1))
                        self.assertNotEqual((live.holding[name], live.arrived), (bucket, bucket + 1))
                        self.assertNotEqual(live.holding[name], bucket)

    def test_arrivals(self):
        for paces in some_paces(1, seed=80):
            line = line_of(*paces)
            live = LiveLine(line)
            for bucket, tick in enumerate(line.arrivals(0, 20)):
                self.assertEqual(live.wait(tick - live.now - 1), 0)
                self.assertEqual([live.wait(1), live.arrived], [1, bucket + 1])


class WaitTest(Case):
    def setUp(self):
        self.line = line_of(2, 3, 1)
        self.live = LiveLine(self.line)

    def test_at_the_beginning(self):
        self.assertEqual(readings(self.live), [0, 0, {"ann": 0, "bob": None, "cid": None},
                                               {"ann": 2, "bob": 3, "cid": 1}, []])

    def test_each_tick(self):
        seen = [self.live.holding]
        counts = []
        for _ in range(12):
            counts.append(self.live.wait(1))
            seen.append(self.live.holding)
        held = [tuple(holding.values()) for holding in seen]
        self.assertEqual(held, [(0, None, None)] * 3 + [(1, 0, None)] * 3 + [(1, None, None)] * 3
                         + [(2, 1, None)] * 3 + [(2, None, None)])
        self.assertEqual(counts, [0] * 5 + [1] + [0] * 5 + [1])

    def test_empty_waits(self):
        self.assertEqual([self.live.wait(0), self.live.wait(0)], [0, 0])
        self.assertEqual([self.live.now, self.live.history], [0, [("wait", 0), ("wait", 0)]])
        self.live.wait(6)
        self.assertEqual(self.live.wait(0), 0)
        self.assertEqual([self.live.now, self.live.arrived], [6, 1])

    def test_an_empty_wait_begins_no_hand_over(self):
        self.live.wait(0)
        self.live.train("ann", 9)
        self.assertEqual([self.live.wait(11), self.live.wait(1)], [0, 1])

    def test_waits_in_parts(self):
        for parts in ((1,) * 60, (7,) * 8 + (4,), (59, 1), (0, 30, 0, 0, 30)):
            live = LiveLine(self.line)
            counts = [live.wait(part) for part in parts]
            self.assertEqual([sum(counts), live.now, live.arrived], [10, 60, 10])
            whole = LiveLine.replay(self.line, ("wait", 60))
            self.assertEqual(readings(live)[:4], readings(whole)[:4])

    def test_as_long_as_allowed(self):
        self.assertEqual([self.live.wait(10000), self.live.now], [1666, 10000])
        self.assertEqual([self.live.wait(10000), self.live.now, self.live.arrived], [1667, 20000, 3333])

    def test_wrong_ticks(self):
        before = all_of(self.live)
        for ticks in NO_TICKS:
            self.fails(InvalidNumber(), self.live.wait, ticks)
            self.assertEqual(all_of(self.live), before)

    def test_two_people(self):
        live = LiveLine(line_of(4, 5))
        self.assertEqual([live.wait(4), live.holding, live.wait(1), live.holding],
                         [0, {"ann": 0, "bob": None}, 1, {"ann": 1, "bob": None}])
        self.assertEqual([live.wait(25), live.arrived], [5, 6])

    def test_people_who_are_as_slow_as_allowed(self):
        live = LiveLine(line_of(*[1000] * 12))
        self.assertEqual([live.wait(10000), live.wait(999), live.wait(1), live.wait(2000)], [0, 0, 1, 1])

    def test_live_lines_do_not_share_anything(self):
        other = LiveLine(self.line)
        before = all_of(other)
        self.live.apply_all([("wait", 9), ("train", "ann", 7), ("pause", "bob")])
        self.assertEqual(all_of(other), before)
        self.assertEqual(self.line, line_of(2, 3, 1))


class TrainTest(Case):
    def setUp(self):
        self.live = LiveLine(line_of(2, 3, 1))

    def test_returns_the_former_pace(self):
        self.assertEqual([self.live.train("ann", 5), self.live.train("ann", 7), self.live.train("cid", 1000),
                          self.live.train("bob", 1), self.live.train("bob", 1)], [2, 5, 1, 3, 1])
        self.assertEqual(self.live.paces_now, {"ann": 7, "bob": 1, "cid": 1000})
        self.assertEqual(self.live.history[-2:], [("train", "bob", 1), ("train", "bob", 1)])

    def test_a_hand_over_that_has_begun_is_not_changed(self):
        self.live.wait(1)
        self.live.train("bob", 9)
        # The first one takes 3 ticks yet, the second one 9.
        self.assertEqual([self.live.wait(1), self.live.holding["bob"], self.live.wait(1)], [0, None, 0])
        self.assertEqual(self.live.holding["bob"], 0)
        self.assertEqual([self.live.wait(8), self.live.wait(1), self.live.now], [0, 1, 12])

    def test_a_hand_over_that_begins_in_the_present_tick_is_changed(self):
        self.live.train("bob", 9)
        self.assertEqual([self.live.wait(8), self.live.holding["bob"]], [0, None])
        self.live.wait(1)
        self.assertEqual(self.live.holding["bob"], 0)
        # In tick 9, the hand-over from ann has ended, but none has begun.
        self.live.train("cid", 20)
        self.assertEqual([self.live.wait(19), self.live.wait(1)], [0, 1])

    def test_faster_people_do_not_end_a_hand_over_sooner(self):
        self.live.wait(1)
        self.live.apply_all([("train", "ann", 1), ("train", "bob", 1)])
        self.live.wait(1)
        self.assertEqual(self.live.holding["bob"], None)
        self.live.wait(1)
        self.assertEqual(self.live.holding["bob"], 0)
        self.assertEqual(self.live.wait(1), 1)

    def test_pace_of_the_last_person(self):
        self.live.train("cid", 4)
        self.assertEqual([self.live.wait(6), self.live.wait(1)], [0, 1])

    def test_a_trained_line_agrees_with_the_line(self):
        line = line_of(2, 3, 1).trained(7, "cid").trained(1, "ann")
        self.live.train("cid", 7)
        self.live.train("ann", 1)
        for tick in line.arrivals(0, 9):
            self.assertEqual([self.live.wait(tick - self.live.now - 1), self.live.wait(1)], [0, 1])

    def test_errors(self):
        before = all_of(self.live)
        for pace in NO_PACES:
            self.fails(InvalidNumber(), self.live.train, "ann", pace)
        for name in ("dan", "", "Ann", 5, None):
            self.fails(UnknownPerson(name=name), self.live.train, name, 5)
        self.fails(UnknownPerson(name="dan"), self.live.train, "dan", 0)
        self.assertEqual(all_of(self.live), before)


class PauseTest(Case):
    def setUp(self):
        self.live = LiveLine(line_of(2, 3, 1))

    def test_returns_whether_it_changes_anything(self):
        live = self.live
        self.assertEqual([live.resume("ann"), live.pause("ann"), live.pause("ann"), live.pause("bob"),
                          live.resume("ann"), live.resume("ann"), live.pause("ann")],
                         [False, True, False, True, True, False, True])

    def test_all_are_operations_in_effect(self):
        operations = [("resume", "ann"), ("pause", "ann"), ("pause", "ann"), ("resume", "ann"), ("resume", "ann")]
        self.live.apply_all(operations)
        self.assertEqual(self.live.history, operations)
        self.assertEqual([self.live.undo() for _ in range(6)], [True] * 5 + [False])

    def test_nobody_hands_on_to_the_first_person(self):
        self.live.pause("ann")
        self.assertEqual([self.live.wait(99), self.live.holding], [0, {"ann": 0, "bob": None, "cid": None}])

    def test_the_person_behind(self):
        self.live.pause("cid")
        self.assertEqual([self.live.wait(99), self.live.holding], [0, {"ann": 1, "bob": 0, "cid": None}])
        self.live.resume("cid")
        self.assertEqual([self.live.wait(2), self.live.wait(1), self.live.now], [0, 1, 102])

    def test_a_hand_over_that_has_begun_goes_on(self):
        self.live.wait(1)
        self.live.pause("ann")
        self.live.pause("bob")
        self.assertEqual([self.live.wait(2), self.live.holding], [0, {"ann": 1, "bob": 0, "cid": None}])
        self.assertEqual([self.live.wait(50), self.live.holding], [0, {"ann": 1, "bob": 0, "cid": None}])

    def test_a_hand_over_that_begins_in_the_present_tick_does_not_begin(self):
        self.live.wait(3)
        self.live.pause("bob")
        self.assertEqual([self.live.wait(3), self.live.holding["bob"]], [0, 0])
        self.live.resume("bob")
        self.assertEqual([self.live.wait(2), self.live.wait(1)], [0, 1])

    def test_pausing_does_not_matter_within_a_tick(self):
        self.live.apply_all([("pause", "bob"), ("wait", 0), ("resume", "bob")])
        self.assertEqual([self.live.wait(5), self.live.wait(1)], [0, 1])

    def test_others_go_on_beside_a_pause(self):
        live = LiveLine(line_of(1, 1, 1, 1))
        live.wait(1)
        live.pause("ann")
        self.assertEqual([live.wait(2), live.arrived, live.holding],
                         [1, 1, {"ann": 1, "bob": None, "cid": None, "dan": None}])

    def test_each_of_both_has_to_resume(self):
        self.live.apply_all([("pause", "ann"), ("pause", "bob"), ("wait", 5), ("resume", "ann"), ("wait", 5)])
        self.assertEqual(self.live.holding["bob"], None)
        self.live.apply_all([("resume", "bob"), ("wait", 3)])
        self.assertEqual(self.live.holding["bob"], 0)

    def test_training_in_a_pause(self):
        results = self.live.apply_all([("pause", "bob"), ("train", "bob", 9), ("wait", 5), ("resume", "bob")])
        self.assertEqual(results, [True, 3, 0, True])
        self.assertEqual([self.live.wait(17), self.live.wait(1), self.live.now], [0, 1, 23])

    def test_unknown_people(self):
        before = all_of(self.live)
        for name in ("dan", "", "Ann", 5, None):
            self.fails(UnknownPerson(name=name), self.live.pause, name)
            self.fails(UnknownPerson(name=name), self.live.resume, name)
        self.assertEqual(all_of(self.live), before)


class PropertiesTest(Case):
    def setUp(self):
        self.live = LiveLine(Line(("zoe", 2), ("bob", 3), ("ann", 1)))

    def test_names_are_in_the_order_of_the_line(self):
        self.live.wait(4)
        self.live.train("ann", 4)
        self.assertEqual(list(self.live.holding.items()), [("zoe", 1), ("bob", 0), ("ann", None)])
        self.assertEqual(list(self.live.paces_now.items()), [("zoe", 2), ("bob", 3), ("ann", 4)])

    def test_history_has_names_and_arguments(self):
        operations = [("wait", 5), ("train", "bob", 7), ("pause", "zoe"), ("resume", "zoe"), ("wait", 0)]
        self.live.wait(5)
        self.live.train("bob", 7)
        self.live.pause("zoe")
        self.live.resume("zoe")
        self.live.wait(0)
        self.assertEqual(self.live.history, operations)
        self.assertEqual([type(operation) for operation in self.live.history], [tuple] * 5)

    def test_all_are_new_for_each_reading(self):
        self.live.wait(4)
        before = readings(self.live)
        self.live.holding["zoe"] = 99
        self.live.holding.clear()
        self.live.paces_now["zoe"] = 99
        self.live.paces_now.clear()
        self.live.history.append(("wait", 9))
        self.live.history.clear()
        self.assertEqual(readings(self.live), before)
        self.assertIsNot(self.live.holding, self.live.holding)
        self.assertIsNot(self.live.paces_now, self.live.paces_now)
        self.assertIsNot(self.live.history, self.live.history)

    def test_readings_do_not_change_later(self):
        self.live.wait(4)
        before = readings(self.live)
        kept = [self.live.now, self.live.arrived, dict(self.live.holding), dict(self.live.paces_now),
                list(self.live.history)]
        self.live.apply_all([("wait", 9), ("train", "zoe", 9), ("pause", "bob")])
        self.assertEqual(before, kept)

    def test_they_cannot_be_assigned(self):
        for name in ("now", "arrived", "holding", "paces_now", "history"):
            self.assertIsInstance(vars(LiveLine)[name], property)
            with self.assertRaises(AttributeError):
                setattr(self.live, name, 5)

    def test_the_class_has_its_own_methods(self):
        for name in ("wait", "train", "pause", "resume", "undo", "redo", "apply_all", "tried", "replay"):
            self.assertIn(name, vars(LiveLine))
        self.assertIsInstance(vars(LiveLine)["replay"], classmethod)


if __name__ == "__main__":
    unittest.main()
