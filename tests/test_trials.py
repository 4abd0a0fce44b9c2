"""Points 3 and 23: trials of tables, and what is foreseen."""

import copy
import unittest

from columnkin.errors import BadRecord, CannotAdopt, KinError, NoSuchRecord, TooMany
from columnkin.records import shred
from columnkin.schemas import Schema
from columnkin.tables import Table

TAGS = Schema((("id", "required", "int"), ("tags", "repeated", "text")))
WIDER = Schema((*TAGS.fields, ("more", "optional", "flag")))
ONE, TWO, THREE = {"id": 1, "tags": ["a", "b"]}, {"id": 2, "tags": []}, {"id": 3, "tags": ["c"]}


class Stop(Exception):
    """An error that is not the program's."""


def changed_table():
    """A table with three changes."""
    table = Table(TAGS)
    table.append([ONE])
    table.append([TWO, THREE])
    table.truncate(2)
    return table


class TrialTest(unittest.TestCase):
    def assert_as_changed(self, table):
        """The table is as `changed_table` makes it, its changes that can be undone included."""
        after = copy.deepcopy(table)
        for records in ([ONE, TWO], [ONE, TWO, THREE], [ONE], []):
            self.assertEqual(after.schema, TAGS)
            self.assertEqual(after.columns, shred(TAGS, records))
            self.assertEqual(after.records(), records)
            self.assertIs(after.undo(), len(records) > 0)


class WithTest(TrialTest):
    def test_the_value_is_the_table(self):
        table = changed_table()
        with table.tried() as held:
            self.assertIs(held, table)
            self.assert_as_changed(held)
        self.assert_as_changed(table)

    def test_each_kind_of_change(self):
        for change in (
            lambda table: table.append([THREE]), lambda table: table.append([]), lambda table: table.truncate(0),
            lambda table: table.truncate(2), lambda table: table.adopt(WIDER), lambda table: table.adopt(TAGS),
            lambda table: table.undo(),
        ):
            table = changed_table()
            with table.tried() as held:
                change(held)
            self.assert_as_changed(table)
            self.assertIs(table.schema, TAGS)

    def test_changes_are_seen_within_the_trial(self):
        table = changed_table()
        with table.tried():
            self.assertEqual(table.append([THREE]), 3)
            self.assertEqual(table.records(), [ONE, TWO, THREE])
            table.adopt(WIDER)
            self.assertEqual(table.record(0), {**ONE, "more": None})
            self.assertEqual(table.truncate(0), 3)
            self.assertEqual((len(table), list(table)), (0, [(), (), ()]))
        self.assert_as_changed(table)

    def test_undo_within_the_trial(self):
        table = changed_table()
        with table.tried():
            while table.undo():
                pass
            self.assertEqual(len(table), 0)
            table.append([THREE])
            self.assertIs(table.undo(), True)
            self.assertIs(table.undo(), False)
        self.assert_as_changed(table)

    def test_empty_table(self):
        table = Table(TAGS)
        with table.tried() as held:
            self.assertIs(held, table)
            held.append([ONE])
        self.assertEqual((table.columns, table.schema), (((), ()), TAGS))
        self.assertIs(table.undo(), False)

    def test_trials_that_end_by_an_error(self):
        for error in (Stop("why"), BadRecord("why"), KeyError(1), ValueError(), KeyboardInterrupt(), GeneratorExit()):
            table = changed_table()
            with self.assertRaises(type(error)) as caught:
                with table.tried():
                    table.append([THREE])
                    table.adopt(WIDER)
                    raise error
            self.assertIs(caught.exception, error)
            self.assert_as_changed(table)

    def test_trials_that_end_by_an_error_of_the_table(self):
        for error, call in (
            (BadRecord, lambda table: table.append([None])), (TooMany, lambda table: table.append([ONE] * 99)),
            (NoSuchRecord, lambda table: table.truncate(9)), (NoSuchRecord, lambda table: table.record(9)),
            (CannotAdopt, lambda table: table.adopt(Schema(TAGS.fields[:1]))),
        ):
            table = changed_table()
            with self.assertRaises(error):
                with table.tried():
                    table.append([THREE])
                    call(table)
            self.assert_as_changed(table)

    def test_trials_that_end_by_a_jump(self):
        def answer(table):
            with table.tried():
                table.append([THREE])
                return len(table)

        table = changed_table()
        self.assertEqual(answer(table), 3)
        self.assert_as_changed(table)
        for number in range(3):
            with table.tried():
                table.truncate(0)
                if number == 1:
                    break
                continue
        self.assert_as_changed(table)

    def test_trials_within_trials(self):
        table = changed_table()
        with table.tried():
            table.append([THREE])
            with table.tried():
                table.adopt(WIDER)
                with table.tried():
                    table.truncate(0)
                self.assertEqual((table.schema, len(table)), (WIDER, 3))
                table.undo()
                table.undo()
                self.assert_as_changed(table)
            self.assertEqual((table.schema, table.records()), (TAGS, [ONE, TWO, THREE]))
            self.assertIs(table.undo(), True)
            self.assert_as_changed(table)
            table.append([ONE])
        self.assert_as_changed(table)

    def test_an_error_within_a_trial_within_a_trial(self):
        table = changed_table()
        with self.assertRaises(Stop):
            with table.tried():
                table.append([THREE])
                with table.tried():
                    table.truncate(1)
                    raise Stop
        self.assert_as_changed(table)
        with table.tried():
            table.append([THREE])
            with self.assertRaises(Stop):
                with table.tried():
                    table.truncate(1)
                    raise Stop
            self.assertEqual(table.records(), [ONE, TWO, THREE])
        self.assert_as_changed(table)

    def test_the_table_is_as_it_was_when_the_trial_was_made(self):
        """Not as it was when the statement began."""
        table = changed_table()
        trial = table.tried()
        table.append([THREE])
        table.adopt(WIDER)
        with trial as held:
            self.assertIs(held, table)
            self.assertEqual((table.schema, len(table)), (WIDER, 3))
        self.assert_as_changed(table)
        with trial:
            table.undo()
        self.assert_as_changed(table)

    def test_a_trial_that_is_not_used(self):
        table = changed_table()
        table.tried()
        table.append([THREE])
        self.assertEqual(table.records(), [ONE, TWO, THREE])
        self.assertIs(table.undo(), True)
        self.assert_as_changed(table)

    def test_trials_that_end_in_another_order(self):
        table = changed_table()
        first = table.tried()
        table.append([THREE])
        second = table.tried()
        with first:
            with second:
                table.truncate(0)
            self.assertEqual(table.records(), [ONE, TWO, THREE])
        self.assert_as_changed(table)
        with second:
            pass
        self.assertEqual(table.records(), [ONE, TWO, THREE])
        self.assertIs(table.undo(), True)
        self.assert_as_changed(table)

    def test_other_tables_are_not_touched(self):
        table, other = changed_table(), Table(TAGS)
        with table.tried():
            other.append([THREE])
        self.assertEqual(other.records(), [THREE])
        self.assert_as_changed(table)

    def test_changes_behind_a_trial(self):
        table = changed_table()
        with table.tried():
            table.append([THREE])
        self.assertEqual(table.append([ONE]), 3)
        self.assertEqual(table.records(), [ONE, TWO, ONE])
        self.assertIs(table.undo(), True)
        self.assert_as_changed(table)


class ForeseeTest(TrialTest):
    def test_numbers(self):
        table = changed_table()
        for records, number in (([], 2), ([ONE], 3), ([ONE] * 98, 100)):
            self.assertEqual(repr(table.foresee(records)), repr(number))
            self.assert_as_changed(table)
        self.assertEqual(Table(TAGS).foresee([ONE]), 1)

    def test_errors(self):
        full = {"id": 1, "tags": ["a"] * 100}
        for error, records in (
            (BadRecord, None), (BadRecord, [None]), (BadRecord, [{"id": 1}]), (BadRecord, [ONE] * 101),
            (BadRecord, [full] * 10 + [None]), (TooMany, [ONE] * 99), (TooMany, [full] * 11), (TooMany, [full] * 10),
        ):
            table = changed_table()
            with self.assertRaises(error):
                table.foresee(records)
            self.assert_as_changed(table)

    def test_what_append_does_is_foreseen(self):
        table = changed_table()
        for records in ([], [ONE], [None], [TWO] * 97, [TWO] * 96, [TWO]):
            found = []
            for call in (table.foresee, table.append):
                try:
                    found.append(call(records))
                except KinError as error:
                    found.append(type(error))
            self.assertEqual(found[0], found[1])
        self.assertEqual(len(table), 100)

    def test_arguments_stay_as_they_are(self):
        records = copy.deepcopy([ONE, TWO])
        changed_table().foresee(records)
        self.assertEqual(repr(records), repr([ONE, TWO]))


if __name__ == "__main__":
    unittest.main()
