"""Points 7 and 8: the three deeds, and what is redone of a disk; and of these, point 1."""

import copy
import unittest

from btreelog.disks import done, redone

KEPT = ("kept",)
A = ("leaf", ((1, "a"),))
B = ("leaf", ((2, "b"), (3, "c")))
C = ("branch", ((1, 4), (2, 5)))
FULL = {0: C, 4: A, 5: B, 9: A}
LOG = [("block", 4, B), ("block", 9, None), KEPT, ("block", 7, A)]


class DoneTest(unittest.TestCase):
    def check(self, blocks, log, deed, blocks_then, log_then):
        handed = (copy.deepcopy(blocks), copy.deepcopy(log))
        told = done(blocks, log, deed)
        self.assertIs(type(told), tuple)
        self.assertEqual(told, (blocks_then, log_then))
        self.assertIs(type(told[0]), dict)
        self.assertIs(type(told[1]), list)
        self.assertEqual((blocks, log), handed)
        # What is told is no part of what was handed in, also where nothing changes.
        told[0][77] = A
        told[0].pop(0, None)
        told[1].append("mine")
        self.assertEqual((blocks, log), handed)
        self.assertEqual(done(blocks, log, deed), (blocks_then, log_then))

    def test_an_entry_goes_behind_the_log(self):
        for entry in (("block", 4, B), ("block", 0, C), ("block", 3, None), KEPT):
            with self.subTest(entry=entry):
                self.check({}, [], ("log", entry), {}, [entry])
                self.check(FULL, LOG, ("log", entry), FULL, LOG + [entry])
                self.check(FULL, [], ("log", entry), FULL, [entry])

    def test_an_entry_that_the_log_has_already_goes_behind_it_again(self):
        self.check(FULL, LOG, ("log", LOG[0]), FULL, LOG + [LOG[0]])
        self.check({}, [KEPT], ("log", KEPT), {}, [KEPT, KEPT])

    def test_a_write_of_a_block_that_is_there(self):
        self.check(FULL, LOG, ("write", 4, B), {0: C, 4: B, 5: B, 9: A}, LOG)
        self.check(FULL, LOG, ("write", 0, A), {0: A, 4: A, 5: B, 9: A}, LOG)
        self.check(FULL, [], ("write", 9, A), FULL, [])

    def test_a_write_of_a_block_that_is_not_there(self):
        self.check({}, [], ("write", 0, A), {0: A}, [])
        self.check({}, LOG, ("write", 6, A), {6: A}, LOG)
        self.check(FULL, LOG, ("write", 1, C), {0: C, 1: C, 4: A, 5: B, 9: A}, LOG)

    def test_a_write_of_none(self):
        self.check(FULL, LOG, ("write", 9, None), {0: C, 4: A, 5: B}, LOG)
        self.check(FULL, LOG, ("write", 0, None), {4: A, 5: B, 9: A}, LOG)
        self.check({5: B}, [], ("write", 5, None), {}, [])

    def test_a_write_of_none_where_no_block_is(self):
        self.check({}, [], ("write", 5, None), {}, [])
        self.check({}, LOG, ("write", 0, None), {}, LOG)
        self.check(FULL, LOG, ("write", 6, None), FULL, LOG)

    def test_the_clearing(self):
        self.check(FULL, LOG, ("clear",), FULL, [])
        self.check(FULL, [], ("clear",), FULL, [])
        self.check({}, LOG, ("clear",), {}, [])
        self.check({}, [], ("clear",), {}, [])

    def test_what_was_handed_in_may_change_behind_the_call(self):
        for deed in (("log", KEPT), ("write", 4, B), ("write", 6, None), ("clear",)):
            blocks, log = dict(FULL), list(LOG)
            told = done(blocks, log, deed)
            before = copy.deepcopy(told)
            blocks.clear()
            log.append("later")
            self.assertEqual(told, before)

    def test_a_row_of_deeds(self):
        disk = ({}, [])
        for deed in (("log", ("block", 0, A)), ("log", KEPT), ("write", 0, A), ("write", 3, B), ("clear",),
                     ("log", ("block", 3, None)), ("write", 3, None), ("write", 0, B)):
            disk = done(*disk, deed)
        self.assertEqual(disk, ({0: B}, [("block", 3, None)]))


class RedoneTest(unittest.TestCase):
    def check(self, blocks, log, then):
        handed = (copy.deepcopy(blocks), copy.deepcopy(log))
        told = redone(blocks, log)
        self.assertEqual(told, then)
        self.assertIs(type(told), dict)
        self.assertEqual((blocks, log), handed)
        told[77] = A
        told.pop(0, None)
        self.assertEqual((blocks, log), handed)
        self.assertEqual(redone(blocks, log), then)

    def test_no_log(self):
        self.check({}, [], {})
        self.check(FULL, [], FULL)

    def test_no_mark(self):
        self.check({}, [("block", 0, A)], {})
        self.check(FULL, [("block", 4, B), ("block", 5, None), ("block", 6, A)], FULL)

    def test_one_mark(self):
        self.check({}, [("block", 0, A), KEPT], {0: A})
        self.check(FULL, [("block", 4, B), ("block", 6, A), KEPT], {0: C, 4: B, 5: B, 6: A, 9: A})

    def test_a_mark_alone(self):
        self.check(FULL, [KEPT], FULL)
        self.check(FULL, [KEPT, KEPT], FULL)
        self.check({}, [KEPT], {})
        self.check({}, [KEPT, KEPT, ("block", 1, A), KEPT, KEPT], {1: A})

    def test_several_marks(self):
        log = [("block", 0, A), KEPT, ("block", 1, B), ("block", 2, C), KEPT, ("block", 3, A), KEPT]
        self.check({}, log, {0: A, 1: B, 2: C, 3: A})
        self.check({}, log[:-1], {0: A, 1: B, 2: C})
        self.check({}, log[:4], {0: A})

    def test_entries_behind_the_last_mark_count_for_nothing(self):
        log = [("block", 0, A), KEPT, ("block", 0, B), ("block", 4, None), ("block", 8, A)]
        self.check({}, log, {0: A})
        self.check(FULL, log, {0: A, 4: A, 5: B, 9: A})

    def test_a_number_twice_in_a_group(self):
        self.check({}, [("block", 0, A), ("block", 0, B), KEPT], {0: B})
        self.check({}, [("block", 1, A), ("block", 2, C), ("block", 1, None), KEPT], {2: C})
        self.check({1: A}, [("block", 1, None), ("block", 1, B), KEPT], {1: B})

    def test_a_number_in_two_groups(self):
        self.check({}, [("block", 0, A), KEPT, ("block", 0, B), KEPT], {0: B})
        self.check({}, [("block", 0, A), KEPT, ("block", 0, None), KEPT], {})
        self.check({0: C}, [("block", 0, None), KEPT, ("block", 0, B), KEPT], {0: B})
        self.check({0: C}, [("block", 0, A), KEPT, ("block", 0, C), KEPT], {0: C})

    def test_none_for_a_block_that_is_there_and_for_one_that_is_not(self):
        self.check(FULL, [("block", 9, None), KEPT], {0: C, 4: A, 5: B})
        self.check(FULL, [("block", 8, None), KEPT], FULL)
        self.check({}, [("block", 0, None), KEPT], {})
        self.check(FULL, [("block", 0, None), ("block", 4, None), ("block", 5, None), ("block", 9, None), KEPT], {})

    def test_a_long_log(self):
        log = []
        for k in range(5000):
            log.append(("block", k % 50, ("leaf", ((k, "v"),)) if k % 7 else None))
            if k % 3 == 2:
                log.append(KEPT)
        last = {}
        for k in range(4998):
            last[k % 50] = ("leaf", ((k, "v"),)) if k % 7 else None
        then = {number: block for number, block in last.items() if block is not None}
        self.check({3: A, 100: B}, log, {**then, 100: B})

    def test_what_was_handed_in_may_change_behind_the_call(self):
        blocks, log = dict(FULL), list(LOG)
        told = redone(blocks, log)
        before = dict(told)
        blocks.clear()
        log.clear()
        self.assertEqual(told, before)


if __name__ == "__main__":
    unittest.main()
