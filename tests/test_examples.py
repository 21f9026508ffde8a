"""The examples of the interface, as they stand there; names that one makes stand for later ones, too."""

import doctest
import unittest

EXAMPLES = r'''
>>> from namelessly.webs import Web, beside, components, coloured, copies, renamed, within
>>> path = Web([("ann", "red"), ("bob", "blue"), ("cid", "red")], [("cid", "bob", "knows", 2), ("ann", "bob", "knows", 1)])
>>> [path.places(), path.ties(), path.kinds(), path.colours(), path.width("bob", "cid", "knows"), path.width("ann", "cid", "knows")]
[['ann', 'bob', 'cid'], [('ann', 'bob', 'knows', 1), ('bob', 'cid', 'knows', 2)], ['knows'], ['blue', 'red'], 2, 0]
>>> [components(within(path, ["cid", "ann"])), renamed(path, {"bob": "eve"}).places(), coloured(path, {"cid": "blue"}).colour("cid")]
[[['ann'], ['cid']], ['ann', 'eve', 'cid'], 'blue']
>>> [beside([path, within(path, ["bob"])])[1], copies(path, 2)[0].ties()[-1]]
[[{'ann': 'p0', 'bob': 'p1', 'cid': 'p2'}, {'bob': 'p3'}], ('p4', 'p5', 'knows', 2)]

>>> from namelessly.texts import read_web, web_text
>>> web_text(path)
'place ann red\nplace bob blue\nplace cid red\ntie ann bob knows 1\ntie bob cid knows 2'
>>> read_web("place a x\nplace b x\ntie b a k 3").ties()
[('a', 'b', 'k', 3)]
'''


class ExamplesTest(unittest.TestCase):

    def test_examples(self):
        examples = doctest.DocTestParser().get_doctest(EXAMPLES, {}, "examples", None, 0)
        told = []
        results = doctest.DocTestRunner(verbose=False).run(examples, out=told.append)
        self.assertGreater(results.attempted, 0)
        self.assertEqual(results.failed, 0, "".join(told))


if __name__ == "__main__":
    unittest.main()
