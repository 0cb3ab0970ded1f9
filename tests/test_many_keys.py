"""As many keys as the document speaks of: ten thousand, in the narrowest blocks and in the widest ones."""

import time
import unittest

from btreelog.disks import done
from btreelog.stores import opened, risen
from btreelog.trees import drop_from, listed, put_in, sound, value_in
from tests.shapes import in_order, why_unsound

MANY = 10000
# A step without a common part with so many keys, such that each of them comes once.
MIXED = [k * 7919 % MANY for k in range(MANY)]
# Far more than any of this takes, and far less than it would take if each request went over the whole tree.
SECONDS = 60


class ManyKeysTest(unittest.TestCase):
    def setUp(self):
        self.began = time.monotonic()

    def tearDown(self):
        self.assertLess(time.monotonic() - self.began, SECONDS)

    def test_a_store(self):
        for width in (3, 64):
            store = opened(width, 100)
            for k in MIXED:
                store.put(k, f"v{k}")
            self.assertEqual(store.pairs(), [(k, f"v{k}") for k in range(MANY)])
            for k in MIXED:
                self.assertEqual(store.value_at(k), f"v{k}")
                self.assertEqual(store.between(k, k + 1), [(n, f"v{n}") for n in (k, k + 1) if n < MANY])
            for k in MIXED[::2]:
                store.drop(k)
            self.assertEqual(store.pairs(), [(k, f"v{k}") for k in sorted(MIXED[1::2])])

    def test_a_tree_of_width_three(self):
        blocks = {0: ("leaf", ())}
        for k in range(MANY):
            blocks.update(put_in(blocks, 3, k, "v"))
        self.assertIs(sound(blocks, 3), True)
        self.assertIsNone(why_unsound(blocks, 3))
        self.assertEqual(listed(blocks), in_order(blocks))
        self.assertEqual(len(listed(blocks)), MANY)
        for k in MIXED:
            self.assertEqual(value_in(blocks, k), "v")
            for number, block in drop_from(blocks, 3, k).items():
                if block is None:
                    del blocks[number]
                else:
                    blocks[number] = block
        self.assertEqual(blocks, {0: ("leaf", ())})

    def test_a_store_that_comes_up_with_a_long_log(self):
        store = opened(3, 1000)
        for k in range(MANY):
            store.put(k, "v")
        blocks, log = {}, []
        # The log of all requests, of which the disk has written nothing yet.
        for deed in store.deeds:
            if deed[0] == "log":
                log.append(deed[1])
        up = risen(3, 1000, blocks, log)
        self.assertEqual(up.pairs(), store.pairs())
        self.assertEqual(up.deeds[-1], ("clear",))
        blocks = {number: block for word, number, block in up.deeds[:-1]}
        self.assertEqual(risen(3, 1, blocks, []).pairs(), store.pairs())
        self.assertEqual(done(blocks, log, ("clear",)), (blocks, []))


if __name__ == "__main__":
    unittest.main()
