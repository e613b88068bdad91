import random
import unittest

from linkneed.errors import InvalidEvent
from linkneed.live import LiveBench
from linkneed.replaying import replayed
from tests.checks import refusal, unusable
from tests.samples import MAIN, ODD_VALUES, TWICE
from tests.test_live import OTHER_TWICE, UNFIT, RandomTest, filled


class ReplayingTest(unittest.TestCase):
    def test_a_log(self):
        log = (2, ("drop",), (("put", MAIN), ("put", TWICE), ("passes", ("fold",)), ("registers", 9)))
        bench = replayed(log)
        self.assertIs(type(bench), LiveBench)
        self.assertEqual([bench.log, bench.units_now, bench.passes_now, bench.registers_now],
                         [log, (TWICE, MAIN), ("fold",), 9])
        self.assertEqual([bench.tally, bench.compiled], [(4, 0, 0), 4])
        self.assertEqual(replayed((1, (), ())), LiveBench(1, ()))

    def test_errors_of_go(self):
        for event, reason in ((("put", UNFIT), "unfit"), (("drop", "z"), "unknown"), (("put", OTHER_TWICE), "twice")):
            log = (2, (), (("put", TWICE), event, ("drop", "zz")))
            self.assertEqual(refusal(replayed, log), ("InvalidEvent", {"event": event, "reason": reason}))

    def test_no_logs(self):
        log = filled().log
        for thing in ODD_VALUES + (list(log), log[:2], (0,) + log[1:], (17,) + log[1:], (True,) + log[1:], (2, None, ()),
                                   (2, ("folds",), ()), (2, (), [("drop", "a")]), (2, (), (("drop", "A"),)), (2, (), (None,))):
            self.assertEqual(refusal(replayed, thing), unusable("log"))

    def test_consequences(self):
        maker = RandomTest()
        for seed in range(15):
            source = random.Random(seed + 500)
            bench = LiveBench(source.randrange(1, 17), source.choice(RandomTest.NAMES))
            former = [(bench.units_now, bench.passes_now, bench.registers_now, bench.log)]
            for _ in range(20):
                try:
                    bench.go(maker.event(source))
                except InvalidEvent:
                    continue
                former.append((bench.units_now, bench.passes_now, bench.registers_now, bench.log))
            self.assertEqual(replayed(bench.log), bench)
            self.assertEqual(replayed(bench.log).log, bench.log)
            self.assertEqual(len(bench.log[2]), bench.tally[0] - bench.tally[2])
            many = source.randrange(len(former))
            bench.undo(many)
            self.assertEqual((bench.units_now, bench.passes_now, bench.registers_now, bench.log), former[len(former) - 1 - many])
            self.assertEqual(replayed(former[-1 - many][3]), bench)
            self.assertEqual(len(bench.log[2]), bench.tally[0] - bench.tally[2])

    def test_by_name(self):
        self.assertEqual(replayed(log=filled().log), filled())


if __name__ == "__main__":
    unittest.main()
