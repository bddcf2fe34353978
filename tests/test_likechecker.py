"""Papers of likeness, and their checkers: [57] to [59]."""

import unittest
from itertools import product

from forcedtables.leading import are_alike, choice_of
from forcedtables.likechecker import lets_alike, lets_like
from forcedtables.likepapers import alike_paper, like_paper
from forcedtables.orders import order_of
from forcedtables.rules import is_element
from tests.choicesamples import (GREAT_FREE, LED, SMALL_FREE, THREES, free, is_free_rule, is_real_free,
                                 plain_choice_fault, plain_choices, plain_group, rest_of, shaped, some_choices)
from tests.kindsamples import is_part, plain_order
from tests.samples import (FIFTEEN, S3, SIX, THIRTY, all_of, any_values, bent, faulty, outcome, plain_together,
                           plain_value, refused, written)

MIXED = (("ring", 5), ("act", 3, 2, 2))
PAPER = (THIRTY, ((2, (1, 0)),), (1, (1, 0)), (0, (0, 1)))
TRIED = [rule for rule, count, _ in LED if plain_value(count) <= 42] + [MIXED, (("act", 15, 2, 14),)]


def plain_powers(rule, element, times):
    """An element of a rule of few elements, put together so many times, one by one."""
    here = all_of(rule)[0]
    for _ in range(times % plain_order(rule, element)):
        here = plain_together(rule, here, element)
    return here


def plain_like_fault(rule, thing):
    """Word and place of what is wrong with a paper on a rule of few elements, by [57] read once more, or None."""
    if type(thing) is not tuple or len(thing) != 4:
        return ("shape", -1)
    count, choice, a, b = thing
    if not is_real_free(count) or plain_value(count) != len(all_of(rule)):
        return ("count", -1)
    if plain_choice_fault(count, choice) is not None:
        return ("choice", -1)
    for at, part in enumerate((a, b)):
        if not is_part(rule, part):
            return ("part", at)
    (_, m, d, u), = plain_group(count, choice)
    one = all_of(rule)[0]
    if plain_powers(rule, a, m) != one:
        return ("power", 0)
    if plain_powers(rule, b, d) != one:
        return ("power", 1)
    if plain_together(rule, b, a) != plain_together(rule, plain_powers(rule, a, u), b):
        return ("turned", -1)
    for k, q in enumerate(rest_of(count, choice)):
        if plain_powers(rule, a, m // q) == one:
            return ("rest", k)
    for k, (p, _) in enumerate(choice):
        if plain_powers(rule, b, d // p) == one:
            return ("acts", k)
    return None


def right_outcome(rule, thing):
    """What the checker has to say of any value as a paper on a rule of few elements."""
    fault = plain_like_fault(rule, thing)
    return written(thing[:2]) if fault is None else faulty(*fault)


def right_alike(rule, other, thing):
    """What the checker has to say of any value as a paper on two rules of few elements, by [58] read once more."""
    if type(thing) is not tuple or len(thing) != 2:
        return faulty("shape", -1)
    for k, one in enumerate((rule, other)):
        if plain_like_fault(one, thing[k]) is not None:
            return faulty("paper", k)
    return str(thing[0][:2] == thing[1][:2])


class Papers(unittest.TestCase):
    def follow(self, rule, count, choice):
        """See that the paper on a rule is let, and names this count and choice."""
        paper = like_paper(rule)
        self.assertEqual([type(paper), len(paper)], [tuple, 4])
        self.assertEqual(written(lets_like(rule, paper)), written((count, choice)), rule)
        self.assertEqual(written(like_paper(rule=rule)), written(paper))
        self.assertEqual(choice_of(rule), paper[:2])
        # a has the order m, b the order d.
        (_, m, d, _), = plain_group(count, choice)
        self.assertEqual([order_of(rule, part) for part in paper[2:]], [m, d])

    def test_known_rules(self):
        for rule, count, choice in LED:
            self.follow(rule, count, choice)
            self.follow((("ring", 1), *rule[::-1]), count, choice)

    def test_many_forms_of_the_groups_of_choices(self):
        for count in SMALL_FREE[::2] + GREAT_FREE:
            for choice in some_choices(count):
                for rule in shaped(count, choice):
                    self.follow(rule, count, choice)

    def test_papers_on_rules_of_few_elements_by_the_entries_read_once_more(self):
        for count in SMALL_FREE:
            if plain_value(count) <= 42:
                for choice in plain_choices(count):
                    for rule in shaped(count, choice):
                        self.assertIsNone(plain_like_fault(rule, like_paper(rule)), rule)

    def test_each_element_is_made_of_both_in_one_way(self):
        for rule in TRIED:
            _, _, a, b = like_paper(rule)
            made = {plain_together(rule, plain_powers(rule, a, k), plain_powers(rule, b, j))
                    for k in range(plain_order(rule, a)) for j in range(plain_order(rule, b))}
            self.assertEqual(len(made), len(all_of(rule)))
            self.assertEqual(plain_order(rule, a) * plain_order(rule, b), len(made))

    def test_papers_on_two_rules(self):
        for (rule, count, choice), (other, late, second) in product(LED, repeat=2):
            paper = alike_paper(rule, other)
            self.assertEqual([type(paper), len(paper)], [tuple, 2])
            self.assertIs(lets_alike(rule, other, paper), (count, choice) == (late, second))
            self.assertIs(lets_alike(rule, other, paper), are_alike(rule, other))
            self.assertEqual([lets_like(rule, paper[0]), lets_like(other, paper[1])], [(count, choice), (late, second)])
            self.assertEqual(written(alike_paper(other=other, rule=rule)), written(paper))


class Like(unittest.TestCase):
    def follow(self, rule, thing, word, at):
        """See that the checker says so, and that [57] read once more does."""
        self.assertEqual(outcome(lets_like, rule, thing), faulty(word, at), (rule, thing))
        self.assertEqual(plain_like_fault(rule, thing), (word, at), (rule, thing))

    def put(self, at, part):
        """The paper of the document with one part exchanged."""
        return PAPER[:at] + (part,) + PAPER[at + 1:]

    def test_shape(self):
        for thing in (None, True, (), [], "", PAPER[:3], (*PAPER, 1), list(PAPER), (PAPER,), 0, PAPER[2:], [None] * 4):
            self.follow(MIXED, thing, "shape", -1)

    def test_count(self):
        for count in (None, [], SIX, (), 30, ((2, 1), (3, 1), (5, True)), ((3, 1), (2, 1), (5, 1)), list(THIRTY),
                      free(2, 3, 7), ((2, 2), (3, 1), (5, 1)), ((2, 1), (15, 1)), free(30)):
            self.follow(MIXED, self.put(0, count), "count", -1)
            self.follow(MIXED, (count, None, None, None), "count", -1)

    def test_choice(self):
        for choice in (None, [], ((2, (0, 0)),), ((2, (True, 0)),), ((2, (1,)),), ((3, (0, 1)),), ((2, [1, 0]),), "",
                       ([2, (1, 0)],), ((2, (1, 0)), (2, (1, 0))), ((2, (0, 2)),)):
            self.follow(MIXED, self.put(1, choice), "choice", -1)
            self.follow(MIXED, (THIRTY, choice, None, None), "choice", -1)

    def test_part(self):
        for part in (None, (), 1, (1,), (1, 0), (5, (1, 0)), (1, (3, 0)), (1, (0, 2)), (True, (1, 0)), (1, [1, 0]),
                     [1, (1, 0)], (1, (1, 0), 0), (1, (1, False)), "1 1;0"):
            self.follow(MIXED, self.put(2, part), "part", 0)
            self.follow(MIXED, self.put(3, part), "part", 1)
            self.follow(MIXED, (THIRTY, (), part, part), "part", 0)
            # An element comes ahead of all powers.
            self.follow(MIXED, (THIRTY, ((2, (1, 0)),), (0, (0, 1)), part), "part", 1)

    def test_power(self):
        self.follow(MIXED, self.put(2, (1, (1, 1))), "power", 0)
        self.follow(MIXED, self.put(2, (0, (0, 1))), "power", 0)
        self.follow(MIXED, self.put(3, (1, (0, 1))), "power", 1)
        self.follow(MIXED, self.put(3, (0, (1, 0))), "power", 1)
        self.follow(MIXED, (THIRTY, ((2, (1, 0)),), (0, (0, 1)), (1, (1, 0))), "power", 0)
        # By the choice () b has to be one.
        self.follow(MIXED, (THIRTY, (), (1, (1, 0)), (0, (0, 1))), "power", 1)

    def test_turned(self):
        self.follow(MIXED, self.put(1, ((2, (0, 1)),)), "turned", -1)
        self.follow(MIXED, self.put(1, ((2, (1, 1)),)), "turned", -1)
        self.follow((("ring", 30),), (THIRTY, ((2, (1, 0)),), (2,), (15,)), "turned", -1)
        self.follow((("ring", 30),), (THIRTY, ((2, (1, 0)),), (10,), (0,)), "turned", -1)
        # What is turned comes ahead of what is one.
        self.follow((("act", 7, 3, 2),), (free(3, 7), ((3, (1,)),), ((1, 0),), ((0, 0),)), "turned", -1)
        self.follow((("act", 7, 3, 2),), (free(3, 7), ((3, (1,)),), ((1, 0),), ((0, 2),)), "turned", -1)

    def test_rest(self):
        self.follow(MIXED, self.put(2, (0, (1, 0))), "rest", 1)
        self.follow(MIXED, self.put(2, (1, (0, 0))), "rest", 0)
        self.follow(MIXED, (THIRTY, ((2, (1, 0)),), (0, (0, 0)), (0, (0, 0))), "rest", 0)
        self.follow((("ring", 30),), (THIRTY, (), (5,), (0,)), "rest", 2)
        self.follow((("ring", 30),), (THIRTY, (), (6,), (0,)), "rest", 0)
        self.follow((("ring", 30),), (THIRTY, (), (0,), (0,)), "rest", 0)

    def test_what_lets_no_prime_act_is_found_ahead_of_it(self):
        # Where b by a prime is one, a is not turned as the choice says, or is one at a prime at rest.
        self.follow((("ring", 6),), (SIX, ((2, (1,)),), (0,), (3,)), "rest", 0)
        self.follow((("ring", 6),), (SIX, ((2, (1,)),), (0,), (0,)), "rest", 0)
        rule = (("act", 7, 3, 2), ("ring", 2))
        self.follow(rule, (free(2, 3, 7), ((3, (0, 1)),), ((1, 0), 1), ((0, 0), 0)), "turned", -1)
        self.follow(rule, (free(2, 3, 7), ((2, (0, 1)),), ((1, 0), 0), ((0, 0), 0)), "turned", -1)

    def test_the_first_of_two_faults(self):
        for one in product((PAPER[0], SIX, None), (PAPER[1], (), [], ((2, (0, 1)),)),
                           (PAPER[2], (1, (1, 1)), (0, (1, 0)), (1, (2, 0)), (1,), (True, (1, 0))),
                           (PAPER[3], (1, (0, 1)), (0, (0, 0)), (0, (1, 1)), (0, 1), (0, (0, True)))):
            self.assertEqual(outcome(lets_like, MIXED, one), right_outcome(MIXED, one), one)

    def test_all_pairs_of_elements(self):
        for rule, count in ((S3, SIX), ((("ring", 6),), SIX), ((("turn", 7, ((4,),), 3),), free(3, 7)), (MIXED, THIRTY),
                            ((("act", 5, 6, 4),), THIRTY)):
            let = 0
            for choice in plain_choices(count):
                for a, b in product(all_of(rule), repeat=2):
                    thing = (count, choice, a, b)
                    right = right_outcome(rule, thing)
                    self.assertEqual(outcome(lets_like, rule, thing), right, (rule, thing))
                    # What is accepted is true.
                    if not right.startswith("InvalidPaper"):
                        self.assertEqual(right, written(choice_of(rule)))
                        let += 1
            self.assertGreater(let, 1)


class AlikePapers(unittest.TestCase):
    def follow(self, rule, other, thing, right):
        """See that the checker says so, and that [58] read once more does."""
        self.assertEqual(outcome(lets_alike, rule, other, thing), right, (rule, other, thing))
        self.assertEqual(right_alike(rule, other, thing), right, (rule, other, thing))

    def test_shape(self):
        for thing in (None, True, (), [], (PAPER,), [PAPER, PAPER], (PAPER, PAPER, PAPER), PAPER, "ab", 2):
            self.follow(MIXED, MIXED, thing, faulty("shape", -1))

    def test_paper(self):
        ring = (THIRTY, (), (1,), (0,))
        self.follow(MIXED, (("ring", 30),), (PAPER, ring), "False")
        self.follow((("ring", 30),), MIXED, (ring, PAPER), "False")
        self.follow(MIXED, MIXED, (PAPER, PAPER), "True")
        self.follow(MIXED, (("ring", 30),), (ring, PAPER), faulty("paper", 0))
        self.follow(MIXED, (("ring", 30),), (PAPER, PAPER), faulty("paper", 1))
        self.follow(MIXED, (("ring", 30),), (ring, ring), faulty("paper", 0))
        self.follow(MIXED, (("ring", 30),), (None, None), faulty("paper", 0))
        self.follow(MIXED, (("ring", 30),), (PAPER, list(ring)), faulty("paper", 1))
        self.follow(MIXED, S3, (PAPER, (SIX, ((2, (1,)),), ((1, 0),), ((0, 1),))), "False")
        self.follow(MIXED, S3, (PAPER, PAPER), faulty("paper", 1))

    def test_unlike_groups_with_as_many_elements_of_each_order(self):
        one, two = (("act", 91, 3, 16),), (("act", 91, 3, 9),)
        self.assertIs(lets_alike(one, two, alike_paper(one, two)), False)
        self.assertEqual(outcome(lets_alike, one, two, alike_paper(one, one)), faulty("paper", 1))
        self.assertEqual(outcome(lets_alike, one, two, alike_paper(two, one)), faulty("paper", 0))
        self.assertIs(lets_alike(one, (("act", 91, 3, 74),), alike_paper(one, (("act", 91, 3, 74),))), True)
        # 74 undoes 16 modulo 91: b turned once by the one is b turned twice by the other.
        paper = (THREES, ((3, (1, 1)),), ((1, 0),), ((0, 1),))
        self.assertEqual(outcome(lets_like, (("act", 91, 3, 74),), paper), faulty("turned", -1))
        self.assertEqual(lets_like((("act", 91, 3, 74),), paper[:3] + (((0, 2),),)), paper[:2])


class Bent(unittest.TestCase):
    def test_papers_with_one_change(self):
        many = 0
        for rule in TRIED:
            for paper in bent(like_paper(rule)):
                right = right_outcome(rule, paper)
                self.assertEqual(outcome(lets_like, rule, paper), right, (rule, paper))
                many += right.startswith("InvalidPaper")
        self.assertGreater(many, 2000)

    def test_papers_on_two_with_one_change(self):
        for rule, other in ((S3, (("turn", 3, ((2,),), 2),)), (S3, (("ring", 6),)), (MIXED, (("act", 5, 6, 4),))):
            for paper in bent(alike_paper(rule, other)):
                self.assertEqual(outcome(lets_alike, rule, other, paper), right_alike(rule, other, paper))

    def test_papers_of_other_rules(self):
        for rule, other in product(TRIED, repeat=2):
            paper = like_paper(other)
            self.assertEqual(outcome(lets_like, rule, paper), right_outcome(rule, paper), (rule, paper))

    def test_great_papers_with_one_change(self):
        for count in GREAT_FREE[::3]:
            for choice in some_choices(count, 3):
                rule = plain_group(count, choice)
                for paper in list(bent(like_paper(rule)))[::9]:
                    found = outcome(lets_like, rule, paper)
                    # What is accepted is true.
                    if not found.startswith("InvalidPaper"):
                        self.assertEqual(found, written((count, choice)))
                        self.assertTrue(is_element(rule, paper[2]) and is_element(rule, paper[3]))


class Any(unittest.TestCase):
    def test_rules(self):
        for thing in [*any_values(), (("knot", 2),), (("ring", 4),), (("ring", 10007),)]:
            if not is_free_rule(thing):
                for call, args in ((like_paper, (thing,)), (alike_paper, (thing, thing)), (lets_like, (thing, thing)),
                                   (lets_alike, (thing, thing, thing)), (lets_alike, (thing, S3, ())),
                                   (alike_paper, (thing, S3)), (lets_like, (thing, PAPER))):
                    self.assertEqual(outcome(call, *args), refused("rule"))
                self.assertEqual(outcome(alike_paper, S3, thing), refused("other"))
                self.assertEqual(outcome(lets_alike, S3, thing, thing), refused("other"))
                self.assertEqual(outcome(lets_alike, S3, thing, (PAPER, PAPER)), refused("other"))

    def test_things(self):
        for thing in any_values():
            self.assertEqual(outcome(lets_like, S3, thing), right_outcome(S3, thing))
            self.assertEqual(outcome(lets_alike, S3, S3, thing), right_alike(S3, S3, thing))
            for at in range(4):
                paper = PAPER[:at] + (thing,) + PAPER[at + 1:]
                self.assertEqual(outcome(lets_like, MIXED, paper), right_outcome(MIXED, paper))

    def test_by_position_and_by_name(self):
        self.assertEqual(lets_like(thing=PAPER, rule=MIXED), PAPER[:2])
        self.assertIs(lets_alike(thing=(PAPER, PAPER), other=MIXED, rule=MIXED), True)
        self.assertEqual(lets_like((("ring", 15),), (FIFTEEN, (), (1,), (0,))), (FIFTEEN, ()))

    def test_what_is_handed_in_stays(self):
        for thing in (list(PAPER), [list(PAPER), list(PAPER)], (THIRTY, [[2, [1, 0]]], [1, [1, 0]], [0]),
                      (list(THIRTY), (), [], []), ([], [])):
            before = written(thing)
            outcome(lets_like, MIXED, thing)
            outcome(lets_alike, MIXED, MIXED, thing)
            self.assertEqual(written(thing), before)
