"""The examples of the document's interface, as they stand there, and those of README.md."""

import doctest
import pathlib
import unittest

EXAMPLES = {
    "errors and names": '''
>>> from metnumbers.errors import MeetError, NoMeeting, TooMany
>>> from metnumbers.names import is_integer, is_name
>>> [TooMany(7).limit, NoMeeting(((0,), ())).bar, isinstance(TooMany(7), MeetError), is_name("ann2"), is_name("2ann"), is_integer(True)]
[7, ((0,), ()), True, True, False, False]
''',
    "parties": '''
>>> from metnumbers.parties import free_pairs, is_party, look_alike, needs, two_sided, with_apart, with_met
>>> party = ((2, 1, 1, None), ((0, 1),), ((0, 3),))
>>> [is_party(party), is_party(((1,), ((0, 0),), ())), free_pairs(party), needs(party), with_met(party, (0, 2))[1]]
[True, False, [(0, 2), (1, 2), (1, 3), (2, 3)], [1, 0, 1, None], ((0, 1), (0, 2))]
>>> [two_sided((1, 1), (2,)), look_alike(two_sided((1, 1), (2,))), with_apart(party, (1, 2))[2]]
[((1, 1, 2), (), ((0, 1),)), [(0, 1)], ((0, 3), (1, 2))]
''',
    "meetings": '''
>>> from metnumbers.meetings import how_many, how_many_with, is_meeting, least_meeting, meetings
>>> party = ((1, 1, 1, 1), (), ())
>>> [least_meeting(party), list(meetings(party)), how_many(party), how_many_with(party, (0, 2)), is_meeting(party, ((0, 3), (1, 2)))]
[((0, 1), (2, 3)), [((0, 1), (2, 3)), ((0, 2), (1, 3)), ((0, 3), (1, 2))], 3, 1, True]
>>> [least_meeting(((1, 1, 1), (), ())), least_meeting(((1, None), (), ())), how_many(((None, None, 1), (), ()))]
[None, ((0, 1),), 4]
''',
    "bars": '''
>>> from metnumbers.bars import bar_of, bars_it, odd_lots, rows, slack
>>> party = ((3, 1, 1, 0), (), ())
>>> [slack(party, ((), (0,))), bars_it(party, ((), (0,))), slack(party, ((), ())), odd_lots(party, ((), ())), rows(party)]
[-1, True, -1, [(0, 1, 2, 3)], [(1, 3, 2), (2, 4, 3), (3, 5, 6), (4, 5, 12)]]
>>> [slack(((2, 0), (), ()), ((), (0,))), bar_of(((1, 1), (), ())), bars_it(((1, None, 1), (), ((0, 1), (1, 2))), ((), (0,)))]
[-2, None, False]
''',
    "sure": '''
>>> from metnumbers.sure import is_settled, only_meeting, paper_of, shows_state, state_of, states
>>> star = ((3, 1, None, 1), (), ())
>>> [state_of(star, (0, 2)), state_of(star, (1, 2)), only_meeting(star), is_settled(((1, 1, 1, 1), (), ()))]
['met', 'apart', ((0, 1), (0, 2), (0, 3)), False]
>>> [shows_state(((1, 1, 1, 1), (), ()), (0, 1), ("open", ((0, 1), (2, 3)), ((0, 2), (1, 3)))), states(((1, 1, 0), (), ()))]
[True, {(0, 1): 'met', (0, 2): 'apart', (1, 2): 'apart'}]
''',
    "pieces": '''
>>> from metnumbers.pieces import cut, joined_meeting, one_paper, parted_meeting, partings, pieces, shows_one, surely_one
>>> pairs, ring = ((1, 1, 1, 1), (), ()), ((2, 2, 2), (), ())
>>> [partings(ring), cut(pairs, (0, 1)), pieces(pairs, ((0, 1), (2, 3))), parted_meeting(pairs), joined_meeting(pairs)]
[[(0,), (0, 1), (0, 2)], ((1, 1, 1, 1), (), ((0, 2), (0, 3), (1, 2), (1, 3))), [(0, 1), (2, 3)], ((0, 1), (2, 3)), None]
>>> [surely_one(ring), one_paper(pairs), shows_one(ring, [((0,), ((), (0,))), ((0, 1), ((), (2,))), ((0, 2), ((), (1,)))])]
[True, None, True]
''',
    "exchanges": '''
>>> from metnumbers.exchanges import difference, exchanged, is_exchange, shows_way, switch_way, switches, way
>>> pairs, one, other = ((1, 1, 1, 1), (), ()), ((0, 1), (2, 3)), ((0, 2), (1, 3))
>>> [is_exchange(pairs, one, (0, 1, 3, 2, 0)), exchanged(pairs, one, (0, 1, 3, 2, 0)), difference(pairs, one, other), len(way(pairs, one, other))]
[True, ((0, 2), (1, 3)), [(0, 1), (0, 2), (1, 3), (2, 3)], 1]
>>> [switches(pairs, one), switch_way(pairs, one, other), shows_way(pairs, one, one, []), shows_way(pairs, one, other, [])]
[[((0, 2), (1, 3)), ((0, 3), (1, 2))], [((0, 1), (2, 3)), ((0, 2), (1, 3))], True, False]
>>> [is_exchange(((1, None, 1), (), ()), ((0, 2),), (1, 0, 2, 1)), way(((None, None), (), ()), (), ((0, 1),)) in ([(0, 1)], [(1, 0)])]
[True, True]
''',
    "settle": '''
>>> from metnumbers.settle import best_question, fewest_questions, other_meeting, plan, settling, shows_plan, told_as
>>> pairs, one = ((1, 1, 1, 1), (), ()), ((0, 1), (2, 3))
>>> [told_as(pairs, one, ((0, 2), (2, 3))), other_meeting(pairs, one, ()), other_meeting(pairs, one, ((0, 2),)), other_meeting(pairs, one, ((0, 2),), about=(2, 3))]
[((1, 1, 1, 1), ((2, 3),), ((0, 2),)), ((0, 2), (1, 3)), ((0, 3), (1, 2)), ((0, 3), (1, 2))]
>>> [settling(pairs, one), settling(pairs, one, about=(0, 1)), settling(((None, None), (), ()), (), about=(0, 1)), best_question(pairs), fewest_questions(pairs)]
[((0, 1),), ((2, 3),), None, ((0, 1), 1, 2), 2]
>>> shows_plan(pairs, ("ask", (0, 1), ("is", one), ("ask", (0, 2), ("is", ((0, 2), (1, 3))), ("is", ((0, 3), (1, 2))))))
True
''',
    "wrongs": '''
>>> from metnumbers.wrongs import excused, excuses, groups, is_excuse, least_excuse, right_numbers, shows_excuse
>>> party = ((3, 1, 1, 0), (), ())
>>> [list(groups(((1, None, 2), (), ()))), excused(party, (0,)), is_excuse(party, (1, 2)), least_excuse(party)[0], excuses(party)]
[[(), (0,), (2,), (0, 2)], ((None, 1, 1, 0), (), ()), False, (0,), [(0,), (3,)]]
>>> [shows_excuse(party, ((0,), ((1, 2),), [((), ((), (0,)))])), right_numbers(party, 0), right_numbers(party, 3)]
[True, [0, 2], [1]]
''',
    "threes": '''
>>> from metnumbers.threes import by_threes, chances, fewest_threes, most_threes, threes
>>> party = ((2, 2, 2, 1, 1), (), ())
>>> [by_threes(party), most_threes(party), fewest_threes(party), threes(party, ((0, 1), (0, 2), (1, 2), (3, 4)))]
[{0: 6, 1: 1}, (1, ((0, 1), (0, 2), (1, 2), (3, 4))), (0, ((0, 1), (0, 2), (1, 3), (2, 4))), [(0, 1, 2)]]
>>> [chances(party)[(0, 1)], chances(party)[(0, 3)], chances(party)[(3, 4)], chances(((2, 2, 2), (), ()))]
[(5, 7), (2, 7), (1, 7), {(0, 1): (1, 1), (0, 2): (1, 1), (1, 2): (1, 1)}]
''',
    "book": '''
>>> from metnumbers.book import Book
>>> book = Book(("ann", "bob", "cy", "dee"), ((1, 1, 1, 1), (), ()))
>>> [book.state("cy", "dee"), book.ask(), book.do(("met", "ann", "bob")), book.state("dee", "cy"), book.news()[1], len(book.news()), book["cy"]]
['open', ('ann', 'bob', 1, 2), None, 'met', ('ann', 'cy', 'apart'), 6, 1]
>>> [book.do(("in", "eve")), book.open_pairs(), book.do(("apart", "cy", "dee")), book.open_pairs(), book.news(), book.undo(), len(book.notes())]
[None, [('cy', 'dee'), ('cy', 'eve'), ('dee', 'eve')], None, [], [('cy', 'dee', 'apart'), ('cy', 'eve', 'met'), ('dee', 'eve', 'met')], None, 2]
>>> [book.undo(), book.names, book.redo(), book.names, book == Book(book.names, book.now), "eve" in book]
[None, ('ann', 'bob', 'cy', 'dee'), None, ('ann', 'bob', 'cy', 'dee', 'eve'), True, True]
''',
    "texts": '''
>>> from metnumbers.texts import format_bar, format_meeting, format_party, parse_bar, parse_meeting, parse_party
>>> [parse_party("2 1 1 ?; met 0 1;apart 0 3"), format_party(((2, None), (), ((0, 1),))), parse_meeting("0 1,2 3"), format_meeting(())]
[((2, 1, 1, None), ((0, 1),), ((0, 3),)), '2 ?; apart 0 1', ((0, 1), (2, 3)), '-']
>>> [parse_bar("- / 0 2"), format_bar(((1,), ()))]
[((), (0, 2)), '1 / -']
''',
    "console": '''
>>> from metnumbers.console import Console
>>> console = Console()
>>> [console.execute(line) for line in ["open ann bob cy dee : 1 1 1 1", "ask", "state ann bob", "met ann bob", "news", "paper ann bob", "pairs"]]
['ok', 'ann bob 1 2', 'open', 'ok', 'ann bob met, ann cy apart, ann dee apart, bob cy apart, bob dee apart, cy dee met', 'met : known', '-']
>>> [console.execute(line) for line in ["undo", "count", "party", "fit : 1 1 2", "many : 1 1 1 1", "one : 2 2 2", "threes : 2 2 2 1 1", "excuse : 3 1 1 0"]]
['ok', '0', '1 1 1 1', '0 2, 1 2', '3', 'yes', '0 1', '0']
''',
}
README = pathlib.Path(__file__).parent.parent / "README.md"


class ExamplesTest(unittest.TestCase):
    def test_interface(self):
        for name, text in EXAMPLES.items():
            with self.subTest(name=name):
                self.assert_holds(name, text)

    def test_readme(self):
        # The marks of a block of code would be taken for what is printed.
        self.assert_holds("README.md", README.read_text(encoding="utf-8").replace("```", ""))

    def assert_holds(self, name, text):
        test = doctest.DocTestParser().get_doctest(text, {}, name, None, 0)
        printed = []
        results = doctest.DocTestRunner(verbose=False).run(test, out=printed.append)
        self.assertGreater(results.attempted, 0)
        self.assertEqual(results.failed, 0, "".join(printed))


if __name__ == "__main__":
    unittest.main()
