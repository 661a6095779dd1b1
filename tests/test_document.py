"""The example at the end of the document."""

import doctest
import unittest

EXAMPLE = """
>>> from rotward.disks import Disks
>>> from rotward.files import Files
>>> disks = Disks(6, 64, 3, 1)
>>> files = Files(disks, True)
>>> files.change([("folder", ("a",)), ("file", ("a", "b")), ("put", ("a", "b"), 0, (1, 2, 3, 4))])
>>> files.change([("snap", "old"), ("put", ("a", "b"), 1, (9,))])
>>> files.read(("a", "b"), 0, 4)
[1, 9, 3, 4]
>>> files.read(("a", "b"), 0, 4, "old")
[1, 2, 3, 4]
>>> disks.rot(0, 33, [7 for k in range(32)])
>>> disks.away(5)
>>> files.read(("a", "b"), 0, 4)
[1, 9, 3, 4]
>>> files.tree()
[(('a',), None), (('a', 'b'), 4)]
"""


class TestDocument(unittest.TestCase):
    def test_example(self):
        example = doctest.DocTestParser().get_doctest(EXAMPLE, {}, "DOC.md", None, None)
        told = doctest.DocTestRunner(verbose=False).run(example)
        self.assertEqual((told.failed, told.attempted), (0, 12))
