"""What holds for all six calls: their form, their refusals in order, and that they do nothing but answer."""

import contextlib
import importlib
import inspect
import io
import itertools
import os
import sys
import unittest

from brokenlines import laying
from brokenlines.laying import at, caret, heights, letters, lines, widths
from pieces import ACUTE, ALEF, BET, BOX, FONT, HIGH, SHY, codes, font, piece

CALLS = (lines, letters, caret, at, widths, heights)
TEXT = codes("ab fi a a") + [ALEF, BET, 32, 49, ACUTE, 10, 97, 32, BOX, SHY, 98, 19968, 19968, 32, 32, 97]
WRONG = font("font 10 8 2 1", "letter a 5", "letter b 5", "char 97 a", "char 97 b")


def work(text=TEXT, **named):
    text = codes(text)
    return piece(text, **dict(dict(boxes=[9, 1, 1] * text.count(BOX)), **named))


def given_to(call, given, place=0, point=(0, 0)):
    """All that is handed to a call, with p or x and y behind way."""
    more = {caret: [place], at: list(point)}.get(call, [])
    return given[:5] + more + given[5:]


def ask(call, given, place=0, point=(0, 0)):
    return call(*given_to(call, given, place, point))


class FormTest(unittest.TestCase):
    def test_names_and_arguments(self):
        first, last = ["side", "wide", "indent", "setting", "way"], ["spans", "boxes", "bands", "text", "fonts"]
        for call in CALLS:
            more = {caret: ["p"], at: ["x", "y"]}.get(call, [])
            self.assertEqual(list(inspect.signature(call).parameters), first + more + last)
            self.assertIs(getattr(laying, call.__name__), call)

    def test_how_many_numbers(self):
        for text in (TEXT, "", "a", "\n"):
            for way in (0, 1):
                given = work(text, way=way, wide=30, side=2, setting=3)
                for call in CALLS:
                    answer = ask(call, given)
                    self.assertIs(type(answer), list)
                    self.assertTrue(all(type(number) is int for number in answer))
                    many = {lines: 1 + 6 * answer[0], letters: 1 + 6 * answer[0], caret: 4, at: 1, widths: 3, heights: 6}
                    self.assertEqual(len(answer), many[call])
                    self.assertGreaterEqual(answer[0], 0)


class OrderTest(unittest.TestCase):
    """Each call with none, one or several faults at once: the first of them that it has is answered."""

    FONTS = (([WRONG], -7), ([FONT, WRONG], -100007), ([FONT, FONT, FONT, []], -300003), ([[], WRONG], -3))
    RANGES = (dict(side=3), dict(wide=2 ** 24 + 1), dict(indent=2 ** 20 + 1), dict(setting=4), dict(way=2),
              dict(spans=[2, 0, 10]), dict(spans=[3, 4, 10]), dict(spans=[3, 0, 0]), dict(boxes=[1, 1, 1]),
              dict(bands=[0, 2 ** 24, 0, 2 ** 24 + 1]), dict(text=[97, 32, 55296]), dict(text=[97] * 4097))

    def due(self, call, is_out, refusal, is_beyond, are_many):
        if is_out:
            return -8
        if refusal is not None:
            return refusal
        if is_beyond and call == caret:
            return -5
        return -6 if are_many and call == lines else None

    def check(self, named, is_out, refusal, is_beyond, are_many):
        named = dict(dict(text="a a", wide=5, fonts=[FONT]), **named)
        if are_many:
            named.setdefault("bands", [0, 2 ** 24, 0, 0])
        text = codes(named.pop("text"))
        for call in CALLS:
            answer = ask(call, piece(text, **named), len(text) + 1 if is_beyond else len(text))
            due = self.due(call, is_out, refusal, is_beyond, are_many)
            if due is None:
                self.assertGreaterEqual(answer[0], 0, (call, named))
            else:
                self.assertEqual(answer, [due], (call, named))

    def test_without_range_faults(self):
        for way, is_beyond, are_many in itertools.product((0, 1), (False, True), (False, True)):
            self.check(dict(way=way), False, None, is_beyond, are_many)
            for fonts, refusal in self.FONTS:
                self.check(dict(way=way, fonts=fonts), False, refusal, is_beyond, are_many)

    def test_range_faults(self):
        for named, is_beyond, are_many in itertools.product(self.RANGES, (False, True), (False, True)):
            self.check(named, True, None, is_beyond, are_many)
            for fonts, refusal in self.FONTS:
                self.check(dict(named, fonts=fonts), True, refusal, is_beyond, are_many)

    def test_points(self):
        bands = [0, 2 ** 24, 0, 0]
        for far in (-2 ** 31, -2 ** 24 - 1, 2 ** 24 + 1, 2 ** 31 - 1):
            for point in ((far, 0), (0, far)):
                for named in (dict(), dict(fonts=[WRONG]), dict(fonts=[WRONG], way=2), dict(wide=5, bands=bands)):
                    self.assertEqual(ask(at, work("a a", **named), point=point), [-8])
        for point in ((-2 ** 24, 2 ** 24), (2 ** 24, -2 ** 24)):
            self.assertEqual(ask(at, work("a a", fonts=[WRONG]), point=point), [-7])
            self.assertGreaterEqual(ask(at, work("a a"), point=point)[0], 0)

    def test_places(self):
        for text in ("", "a", "a\n", TEXT):
            long = len(codes(text))
            for place in range(long + 1):
                self.assertEqual(len(ask(caret, work(text, wide=30), place)), 4)
            for place in (long + 1, 4096 + long, 2 ** 32 - 1):
                self.assertEqual(ask(caret, work(text, wide=30), place), [-5])

    def test_how_many_lines(self):
        for way in (0, 1):
            for bottom, many in ((HIGH * 8191, False), (HIGH * 8191 + 1, True), (2 ** 24, True)):
                self.check(dict(text="a", way=way, bands=[0, bottom, 0, 0]), False, None, False, many)


class SameTest(unittest.TestCase):
    def works(self):
        for way, setting, side in itertools.product((0, 1), (0, 3), (0, 1, 2)):
            yield work(way=way, setting=setting, side=side, wide=45, indent=4, bands=[0, 30, 5, 4, 60, 70, 50, 0],
                       spans=[5, 0, 10, 0, 0, 12, len(TEXT) - 5, 1, 12], fonts=[FONT, FONT])
        yield work("", spans=[])
        yield work("a a", fonts=[WRONG])
        yield work("a a", way=2)
        yield work("a", wide=5, bands=[0, 2 ** 24, 0, 0])

    def asked(self):
        for given in self.works():
            for call in CALLS:
                yield call, given_to(call, given, len(given[8]) // 2, (17, 25))

    def test_nothing_handed_in_is_changed(self):
        for call, given in self.asked():
            before = repr(given)
            call(*given)
            self.assertEqual(repr(given), before)

    def test_answers_are_no_list_that_was_handed_in(self):
        for call, given in self.asked():
            answer = call(*given)
            again = list(answer)
            answer.append(5)
            answer[0] = 77
            self.assertEqual(call(*given), again)

    def test_nothing_is_kept(self):
        asked = list(self.asked())
        first = [call(*given) for call, given in asked]
        self.assertEqual([call(*given) for call, given in reversed(asked)][::-1], first)
        self.assertEqual([call(*given) for call, given in asked for _ in (0, 1)][::2], first)

    def test_modules_stay_as_they_are(self):
        found = sorted(name[:-3] for name in os.listdir(os.path.dirname(laying.__file__)) if name.endswith(".py"))
        modules = [importlib.import_module("brokenlines." + name) for name in found if name != "__init__"]

        def state():
            rows = []
            for module in modules:
                for name, value in sorted(vars(module).items()):
                    if not name.startswith("__"):
                        rows.append((module.__name__, name, repr(value), repr(getattr(value, "__dict__", None)),
                                     repr(getattr(value, "__defaults__", None))))
            return rows

        before = state()
        for call, given in self.asked():
            call(*given)
        self.assertEqual(state(), before)

    def test_nothing_is_printed_read_or_imported(self):
        asked = list(self.asked())
        seen = []
        watching = [False]
        # A hook can't be taken away again, so it is told when to look.
        sys.addaudithook(lambda event, args: seen.append(event) if watching[0] else None)
        out, err = io.StringIO(), io.StringIO()
        with contextlib.redirect_stdout(out), contextlib.redirect_stderr(err):
            watching[0] = True
            for call, given in asked:
                call(*given)
            watching[0] = False
        self.assertEqual((out.getvalue(), err.getvalue()), ("", ""))
        self.assertEqual(seen, [])

    def test_calls_within_one_another_are_few(self):
        texts = ([97, 32] * 2048, [10] * 4096, [8296] * 2048 + [ALEF] * 2048, [97, ACUTE] * 2048, [19968] * 4096)
        limit = sys.getrecursionlimit()
        sys.setrecursionlimit(len(inspect.stack()) + 100)
        try:
            for text in texts:
                for call in CALLS:
                    self.assertGreaterEqual(ask(call, work(text, side=2, wide=2000), 4000, (5, 5))[0], 0)
        finally:
            sys.setrecursionlimit(limit)


if __name__ == "__main__":
    unittest.main()
