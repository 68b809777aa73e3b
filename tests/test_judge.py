"""Promise 51.1, and history and words."""

import unittest

from pourparler.history import Ledger
from pourparler.judge import history, judge, words

TABLE = {"T": ("hear", (("hi", "int", ("end",)),)),
         "S": ("hear", (("e", ("name", "S"), ("name", "S")), ("stop", None, ("end",))))}
T, S = ("name", "T"), ("name", "S")
HI = [("open", 0, 1, 0, T), ("say", 0, 0, "hi", 7), ("hear", 0, 1, "hi", 7), ("close", 0, 1), ("close", 0, 0)]
# The drop of the conversation 0 owes that of an end in a message.
OWING = [("open", 0, 1, 0, S), ("open", 0, 2, 1, ("dual", "S")), ("say", 0, 0, "e", ("end", 1, 0)), ("drop", 0, 1)]


class JudgeTest(unittest.TestCase):
    def assert_judged(self, trace, expected, table=None):
        table = TABLE if table is None else table
        before = repr((table, trace))
        self.assertEqual(repr(judge(table, trace)), repr(expected))
        self.assertEqual(repr((table, trace)), before)

    def test_accepted(self):
        for end in range(len(HI) + 1):
            self.assert_judged(HI[:end], None)
        self.assert_judged([("done", 0)], None)
        self.assert_judged(OWING + [("drop", 1, 0)], None)

    def test_example(self):
        self.assert_judged([HI[0], ("say", 0, 0, "hi", 70000), *HI[2:]], 1)

    def test_the_first_event_that_is_not_allowed(self):
        for at in range(len(HI)):
            for wrong in (("say", 0, 0, "ho", 7), None, "say", 7, [], {}, (), ("open",), list(HI[at]), object()):
                self.assert_judged(HI[:at] + [wrong] + HI[at:], at)
                self.assert_judged(HI[:at] + [wrong, wrong], at)
        for at in range(len(HI) - 1):
            self.assert_judged(HI[:at] + HI[at + 1:], {0: 0, 1: 1, 2: 2, 3: None}[at])
        self.assert_judged(HI + [("close", 0, 0)], 5)
        self.assert_judged(HI[:2] + [("hear", 0, 1, "hi", True)], 2)

    def test_a_drop_that_is_owed_at_the_end(self):
        self.assert_judged(OWING, 4)
        # It is the event that stands in its place that is not allowed, if there is one.
        self.assert_judged(OWING + [("done", 0)], 4)
        self.assert_judged(OWING + [("drop", 0, 0)], 5)
        self.assert_judged(OWING + [("drop", 0, 0), ("drop", 1, 0)], None)

    def test_each_trace_has_a_new_ledger(self):
        self.assert_judged(HI, None)
        self.assert_judged(HI + HI, 5)
        ledger = Ledger(TABLE)
        for event in HI:
            ledger.enter(event)
        self.assertEqual(ledger.owed(), [])

    def test_an_empty_trace(self):
        self.assert_judged([], None)
        self.assert_judged([], None, {})


class HistoryTest(unittest.TestCase):
    TRACE = [
        ("open", 0, 1, 0, T), ("become", 0, 1), ("open", 1, 2, 1, S), ("say", 1, 0, "e", ("end", 0, 0)),
        ("say", 0, 1, "a", 1), ("hear", 1, 1, "e", ("end", 0, 0)), ("say", 1, 0, "stop", None), ("done", 1),
        ("say", 1, 1, "x", 0), ("say", 1, 0, "b", 0), ("told", 0, 0), ("fall", 0), ("drop", 1, 0), ("close", 1, 1),
        ("become", 1, "e"), ("fall", 1), ("done", 0)]

    def test_history(self):
        before = repr(self.TRACE)
        for number, places in ((0, (0, 4, 10)), (1, (2, 3, 5, 6, 8, 9, 12, 13)), (2, ()), (-1, ())):
            self.assertEqual(history(self.TRACE, number), [self.TRACE[place] for place in places])
        self.assertEqual(repr(self.TRACE), before)
        self.assertEqual(history([], 0), [])

    def test_each_kind_of_event(self):
        for event in (("open", 3, 4, 5, T), ("say", 5, 0, "a", 6), ("hear", 5, 1, "a", 6), ("told", 5, 0),
                      ("close", 5, 0), ("drop", 5, 0)):
            for number in range(8):
                self.assertEqual(history([event], number), [event] * (number == 5), event)
        for event in (("become", 5, 5), ("done", 5), ("fall", 5)):
            for number in range(8):
                self.assertEqual(history([event], number), [])

    def test_words(self):
        self.assertEqual(words(self.TRACE, 1, 0), ["e", "stop", "b"])
        self.assertEqual(words(self.TRACE, 1, 1), ["x"])
        self.assertEqual((words(self.TRACE, 0, 1), words(self.TRACE, 0, 0)), (["a"], []))
        self.assertEqual((words(self.TRACE, 2, 0), words([], 0, 0)), ([], []))


if __name__ == "__main__":
    unittest.main()
