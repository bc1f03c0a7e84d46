"""The examples of the document's interface, as they stand there, and those of README.md."""

import doctest
import pathlib
import unittest

EXAMPLES = {
    "errors and names": '''
>>> from metnumbers.errors import MeetError, NoMeeting, TooMany
>>> from metnumbers.names import is_integer, is_name
>>> [TooMany(7).limit, NoMeeting(((0,), ())).bar, isinstance(TooMany(7), MeetError), is_name("ann2"), is_name("2ann"), is_integer(True)]
[7, ((0,), ()), True, True, False, False]
''',
    "parties": '''
>>> from metnumbers.parties import free_pairs, is_party, look_alike, needs, two_sided, with_apart, with_met
>>> party = ((2, 1, 1, None), ((0, 1),), ((0, 3),))
>>> [is_party(party), is_party(((1,), ((0, 0),), ())), free_pairs(party), needs(party), with_met(party, (0, 2))[1]]
[True, False, [(0, 2), (1, 2), (1, 3), (2, 3)], [1, 0, 1, None], ((0, 1), (0, 2))]
>>> [two_sided((1, 1), (2,)), look_alike(two_sided((1, 1), (2,))), with_apart(party, (1, 2))[2]]
[((1, 1, 2), (), ((0, 1),)), [(0, 1)], ((0, 3), (1, 2))]
''',
}
README = pathlib.Path(__file__).parent.parent / "README.md"


class ExamplesTest(unittest.TestCase):
    def test_interface(self):
        for name, text in EXAMPLES.items():
            with self.subTest(name=name):
                self.assert_holds(name, text)

    def test_readme(self):
        # The marks of a block of code would be taken for what is printed.
        self.assert_holds("README.md", README.read_text(encoding="utf-8").replace("```", ""))

    def assert_holds(self, name, text):
        test = doctest.DocTestParser().get_doctest(text, {}, name, None, 0)
        printed = []
        results = doctest.DocTestRunner(verbose=False).run(test, out=printed.append)
        self.assertGreater(results.attempted, 0)
        self.assertEqual(results.failed, 0, "".join(printed))


if __name__ == "__main__":
    unittest.main()
