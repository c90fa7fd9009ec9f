"""The document's examples, as they stand there."""

import doctest
import unittest

from whichmethod import change, choose, data, desk, later, mend, orders, texts

# Sections 3 to 10, in their order: what one of them names stands in those behind it, too.
EXAMPLES = r'''
    >>> kinds = (("a", (), False), ("b", (), False), ("c", ("a", "b"), False), ("d", ("a", "b"), False), ("e", ("c", "d"), False))
    >>> three = (kinds, 1, (("p", ("a",)), ("q", ("b",)), ("r", ("c",))))
    >>> is_generic(three), is_below(kinds, "e", "a"), common(kinds, ("a",), ("b",)), common(kinds, ("c",), ("d",))
    (True, True, [('c',), ('d',)], [('e',)])

    >>> torn(three), greatest_torn(three), nearest(three, ("d",)), chosen(three, ("c",)), meet(three, "p", "q"), cover(three, "p", "r")
    ([('d',)], [('d',)], ['p', 'q'], 'r', ('d',), ['r'])

    >>> mend(three), stages(three), lost(three), is_mended(three, [("d",)])
    ([('d',), ('e',)], [[('d',)], [('e',)]], [('e',)], False)
    >>> chain(three, ("e",)), chosen(three, ("e",)), who(three, ("e",))
    ((('d',), ('e',)), 'r', ['p', 'q'])

    >>> side = ((("t", (), False), ("a", ("t",), False)), 2, (("p", ("a", "t")), ("q", ("t", "a"))))
    >>> wide = ((("a", (), False), ("b", (), False), ("x", (), False), ("y", (), False)), 2, (("p", ("a", "x")), ("q", ("b", "y"))))
    >>> unsafe(wide, []), fewest_partings(wide), unsafe(wide, [("x", "y")]), paper(wide)
    ([('p', 'q')], (('a', 'b'),), [], (('p', 'q'),))
    >>> barred(three), fewest_partings(three), unsafe(three, []), unsafe(side, [])
    ([('p', 'q')], None, [('p', 'q')], [('p', 'q')])
    >>> safe_by(three, [], "p", "r"), safe_by(wide, [("x", "y")], "p", "q")
    (('method', 'r'), ('parting', 1, ('x', 'y')))

    >>> both = (kinds, 1, (("p", ("a",)), ("q", ("b",))))
    >>> won_by(both, ("e", "c", "d", "a", "b"), ("c",)), forced(both, (("c",), "q")), order_for(both, [(("c",), "q")])
    ('p', [('b', 'a')], ('e', 'c', 'd', 'b', 'a'))
    >>> ring(both, [(("c",), "q"), (("d",), "p")]), cannot(both, [(("c",), "q"), (("d",), "p"), (("a",), "p")])
    (('a', 'b'), ((('c',), 'q'), (('d',), 'p')))

    >>> torn(side), winners(side, ("a", "a")), settled(side), choices(both), unlike(both, ("e", "c", "d", "a", "b"), ("e", "d", "c", "b", "a"))
    ([('a', 'a')], ['p'], [('a', 'a')], 2, ('c',))

    >>> things = ((("a", (), True), ("c", ("a",), False), ("d", ("a",), False)), 1, (("p", ("a",)), ("q", ("c",)), ("r", ("d",))))
    >>> hidden(things), hiding(things, "p"), asked(side), elsewhere(both, with_method(both, "r", ("e",)))
    (['p'], ('q', 'r'), [0, 1], [('e',)])

    >>> generic_text(side)
    'generic 2\nkind t\nkind a t\nmethod p a t\nmethod q t a'

    >>> answers("generic 1\nkind a\nkind b\nkind c a b\nmethod p a\nmethod q b\n\nchoose c\nmend\nwish q c\norder\nadd r c\ntorn")
    ['torn p q', 'c', 'done', 'c b a', 'done', '-']
'''


class Examples(unittest.TestCase):
    def test_each_of_them(self):
        names = {}
        for file in (data, choose, mend, later, orders, change, texts, desk):
            names.update(vars(file))
        test = doctest.DocTestParser().get_doctest(EXAMPLES, names, "the examples", None, 0)
        told = []
        result = doctest.DocTestRunner(verbose=False).run(test, out=told.append)
        self.assertEqual(result.failed, 0, "".join(told))
        self.assertEqual(result.attempted, 19)


if __name__ == "__main__":
    unittest.main()
