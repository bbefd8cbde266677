"""What the tests of several modules ask of their functions: refusals, and answers that are the asker's own."""

import copy
import inspect
import itertools
import random


def lists_in(told):
    """Every list that an answer is or holds, at whatever depth."""
    inner = told if isinstance(told, (list, tuple)) else []
    return [each for thing in inner for each in lists_in(thing)] + ([told] if isinstance(told, list) else [])


class Asking:
    """Laid to a TestCase. Calls are tuples (function, names of its arguments)."""

    def named(self, module, calls):
        for deed, names in calls:
            self.assertIs(getattr(module, deed.__name__), deed)
            self.assertEqual(list(inspect.signature(deed).parameters), names, deed)

    def refused(self, due, deed, handed):
        before = copy.deepcopy(handed)
        with self.assertRaises(due, msg=(deed, handed)) as caught:
            deed(*handed)
        self.assertIs(caught.exception.__class__, due)
        self.assertEqual(repr(handed), repr(before))
        return caught.exception

    def each_refused(self, calls, right, wrong, due):
        """Each wrong thing by itself, all others right."""
        for deed, names in calls:
            for at, name in enumerate(names):
                for thing in wrong.get(name, []):
                    handed = [right[other] for other in names]
                    handed[at] = thing
                    self.refused(due[name], deed, handed)

    def leftmost_refused(self, calls, right, wrong, due):
        """Several wrong things at once."""
        chance = random.Random(3)
        for deed, names in calls:
            refusable = [name for name in names if name in due]
            for many in range(2, len(refusable) + 1):
                for wrong_ones in itertools.combinations(refusable, many):
                    for turn in range(30):
                        handed = [chance.choice(wrong[name]) if name in wrong_ones else right[name] for name in names]
                        self.refused(due[wrong_ones[0]], deed, handed)

    def truth(self, wanted, deed, *handed):
        """Just True or False is told, and nothing that is handed in is changed."""
        before = copy.deepcopy(handed)
        self.assertIs(deed(*handed), wanted, handed)
        self.assertEqual(repr(handed), repr(before))

    def own_answer(self, deed, *handed):
        """Asked twice the answer is the same, nothing is changed, and no list is there twice."""
        before = copy.deepcopy(handed)
        first = deed(*handed)
        kept = copy.deepcopy(first)
        second = deed(*handed)
        self.assertEqual(first, second)
        lists = lists_in(first) + lists_in(second)
        self.assertEqual(len({id(each) for each in lists}), len(lists), handed)
        for each in lists_in(first):
            each.append(None)
        self.assertEqual(deed(*handed), kept)
        self.assertEqual(repr(handed), repr(before))
        return kept
