"""Point 3 and the interface's introduction: what the program uses, where its names stand, what it leaves alone."""

import ast
import pathlib
import unittest

from helpers import EXAMPLE
from shorewarn.charts import (Chart, beside, cells, check_event, check_ground, check_readings, check_water,
                              with_high)
from shorewarn.escapes import escape, last_minute, unsafe_from
from shorewarn.events import arrivals, delayed, merged, reduced
from shorewarn.forecasts import agrees, earliest, event_at, explained, is_refutation, latest, least_starts, tight
from shorewarn.placing import fewest_gauges, fewest_shelters, warned
from shorewarn.texts import chart_of, chart_text, readings_of, readings_text
from shorewarn.watches import Watch
from shorewarn.waves import wave_path, wave_time, wave_times

PACKAGE = pathlib.Path(__file__).resolve().parent.parent / "shorewarn"

INTERFACE = {
    "errors": {"ShoreError": 0, "BadChart": 0, "NoSuchCell": 0, "BadEvent": 0, "BadReadings": 0, "ClockBack": 0,
               "NotAGauge": 0, "AlreadyReported": 0, "NotInTime": 0, "TooManyDeeds": 0, "FaultyLine": 0,
               "NotExplained": 0},
    "charts": {"Chart": 0, "cells": ["chart"], "beside": ["chart", "place"], "with_high": ["chart", "places"],
               "check_water": ["chart", "place"], "check_ground": ["chart", "place"],
               "check_event": ["chart", "event"], "check_readings": ["chart", "readings", "clock"]},
    "waves": {"wave_times": ["chart", "cell"], "wave_time": ["chart", "one", "two"],
              "wave_path": ["chart", "one", "two"]},
    "events": {"arrivals": ["chart", "event"], "merged": ["one", "two"], "delayed": ["event", "minutes"],
               "reduced": ["chart", "event"]},
    "forecasts": {"agrees": ["chart", "readings", "clock", "event"], "least_starts": ["chart", "readings", "clock"],
                  "tight": ["chart", "readings", "clock"], "explained": ["chart", "readings", "clock"],
                  "is_refutation": ["chart", "readings", "clock", "gauge", "reasons"],
                  "earliest": ["chart", "readings", "clock"], "latest": ["chart", "readings", "clock"],
                  "event_at": ["chart", "readings", "clock", "cell", "time"]},
    "escapes": {"unsafe_from": ["chart", "readings", "clock"],
                "escape": ["chart", "readings", "clock", "start", "minute"],
                "last_minute": ["chart", "readings", "clock", "start"]},
    "placing": {"warned": ["chart", "gauges", "start"], "fewest_gauges": ["chart", "candidates", "places"],
                "fewest_shelters": ["chart", "gauges", "places", "candidates"]},
    "texts": {"chart_text": ["chart"], "readings_text": ["readings", "clock"], "chart_of": ["text"],
              "readings_of": ["chart", "text"]},
    "watches": {"Watch": 0},
}

WATCH = {"readings": [], "clock": [], "log": [], "observe": ["clock", "reports"], "undo": [], "fork": [],
         "earliest": [], "latest": [], "escape": ["start"], "last_minute": ["start"]}


def trees():
    return {path.stem: ast.parse(path.read_text(encoding="ascii")) for path in sorted(PACKAGE.glob("*.py"))}


class InterfaceTest(unittest.TestCase):
    def test_each_name_is_defined_in_its_file_with_its_arguments(self):
        found = trees()
        for module, names in INTERFACE.items():
            for name, parameters in names.items():
                with self.subTest(module=module, name=name):
                    made = [row for row in found[module].body if getattr(row, "name", None) == name]
                    self.assertEqual(len(made), 1)
                    if parameters == 0:
                        self.assertIsInstance(made[0], ast.ClassDef)
                    else:
                        self.assertIsInstance(made[0], ast.FunctionDef)
                        self.assertEqual([part.arg for part in made[0].args.args], parameters)

    def test_each_method_of_watch_is_defined_in_the_class(self):
        found = [row for row in trees()["watches"].body if getattr(row, "name", None) == "Watch"]
        methods = {row.name: [part.arg for part in row.args.args] for row in found[0].body
                   if isinstance(row, ast.FunctionDef)}
        for name, parameters in WATCH.items():
            with self.subTest(name=name):
                self.assertEqual(methods[name], ["self"] + parameters)

    def test_chart_takes_rows_and_sources_by_name(self):
        chart = Chart(rows=("1",), sources=((0, 0),))
        self.assertEqual((chart.rows, chart.sources), (("1",), ((0, 0),)))


class NothingFromOutsideTest(unittest.TestCase):
    def test_imports(self):
        # Of Python's library only what LANGUAGE.md allows: no clock, no random numbers, no files.
        allowed = ("heapq", "math", "itertools", "collections")
        for name, tree in trees().items():
            for part in ast.walk(tree):
                with self.subTest(file=name):
                    self.assertNotIsInstance(part, ast.Import)
                    if isinstance(part, ast.ImportFrom):
                        self.assertEqual(part.level, 0)
                        self.assertTrue(part.module in allowed or part.module.startswith("shorewarn."))

    def test_builtins_that_reach_outside(self):
        barred = ("open", "input", "print", "exec", "eval", "compile", "globals", "vars")
        for name, tree in trees().items():
            for part in ast.walk(tree):
                if isinstance(part, ast.Name):
                    with self.subTest(file=name):
                        self.assertNotIn(part.id, barred)

    def test_strings_have_no_other_signs(self):
        for name, tree in trees().items():
            for part in ast.walk(tree):
                if isinstance(part, ast.Constant) and isinstance(part.value, str):
                    with self.subTest(file=name, text=part.value):
                        self.assertNotIn("%", part.value)
                        self.assertTrue(all(" " <= sign <= "~" or sign == "\n" for sign in part.value))

    def test_nothing_but_python_files(self):
        names = [path.name for path in PACKAGE.iterdir() if path.name != "__pycache__"]
        self.assertEqual([name for name in names if not name.endswith(".py")], [])


def told_by_a_watch(chart):
    watch = Watch(chart, ((0, 1),))
    watch.observe(6, (((0, 1), 6),))
    other = watch.fork()
    watch.undo()
    return (watch.log(), other.readings(), other.clock(), other.log(), other.earliest(), other.latest(),
            other.escape((1, 0)), other.last_minute((1, 0)))


class ArgumentsStayTest(unittest.TestCase):
    def test_functions_leave_the_chart_as_it_was_and_tell_the_same_again(self):
        chart = Chart(("111", "aa#", "^aa"), ((0, 2),))
        readings = (((0, 1), 6),)
        before = dict(vars(chart))
        calls = (
            lambda: cells(chart),
            lambda: beside(chart, (1, 1)),
            lambda: with_high(chart, ((1, 0),)).rows,
            lambda: check_water(chart, (0, 0)),
            lambda: check_ground(chart, (1, 0)),
            lambda: check_event(chart, (((0, 2), 4),)),
            lambda: check_readings(chart, (((0, 1), 6),), 6),
            lambda: wave_times(chart, (0, 2)),
            lambda: wave_time(chart, (0, 2), (0, 0)),
            lambda: wave_path(chart, (0, 2), (0, 0)),
            lambda: arrivals(chart, (((0, 2), 4),)),
            lambda: merged((((0, 2), 4),), (((0, 2), 3),)),
            lambda: delayed((((0, 2), 4),), 3),
            lambda: reduced(chart, (((0, 2), 4),)),
            lambda: agrees(chart, readings, 6, (((0, 2), 4),)),
            lambda: least_starts(chart, readings, 6),
            lambda: tight(chart, readings, 6),
            lambda: explained(chart, readings, 6),
            lambda: is_refutation(chart, readings, 6, (0, 1), (("start",),)),
            lambda: earliest(chart, readings, 6),
            lambda: latest(chart, readings, 6),
            lambda: event_at(chart, readings, 6, (0, 0), 8),
            lambda: unsafe_from(chart, readings, 6),
            lambda: escape(chart, readings, 6, (1, 0), 6),
            lambda: last_minute(chart, readings, 6, (1, 0)),
            lambda: warned(chart, ((0, 1),), (1, 0)),
            lambda: fewest_gauges(chart, ((0, 0), (0, 2)), ((1, 0), (1, 1))),
            lambda: fewest_shelters(chart, (), ((1, 0), (1, 1)), ((1, 0), (1, 1))),
            lambda: chart_text(chart),
            lambda: vars(chart_of(chart_text(chart))),
            lambda: readings_of(chart, readings_text(readings, 6)),
            lambda: told_by_a_watch(chart),
        )
        first = [call() for call in calls]
        self.assertEqual([call() for call in calls], first)
        self.assertEqual(vars(chart), before)
        self.assertEqual((chart.rows, chart.sources), (EXAMPLE.rows, EXAMPLE.sources))


if __name__ == "__main__":
    unittest.main()
