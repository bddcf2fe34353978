"""The examples of the document, word by word."""

import unittest

from forcedtables.errors import GroupError

COUNTS = """
    >>> SIX = ((2, 1), (3, 1))
    >>> FIFTEEN = ((3, 1), (5, 1))
    >>> THIRTY = ((2, 1), (3, 1), (5, 1))
"""

KINDS = """
    >>> from forcedtables.kinds import is_choice, is_count, is_event, is_prime
    >>> from forcedtables.rulechecker import is_piece, is_rule
    >>> [is_prime(9973), is_prime(10007), is_count(((3, 1), (2, 1))), is_choice(SIX, ((2, (1,)),)), is_choice(SIX, ((3, (1,)),)), is_event(('drop', 4))]
    [True, False, False, True, False, False]
    >>> FOUR = ('turn', 2, ((0, 1), (1, 1)), 3)
    >>> [is_piece(FOUR), is_piece(('act', 7, 3, 2)), is_piece(('act', 7, 3, 3)), is_rule((FOUR, ('knot', 2))), is_rule(())]
    [True, True, False, True, False]
"""

CHECKERS = """
    >>> from forcedtables.countchecker import lets_count
    >>> from forcedtables.rulechecker import lets_rule
    >>> [lets_count(THIRTY), lets_count(()), lets_rule((FOUR, ('knot', 3))), lets_rule((('act', 1, 6, 0),))]
    [30, 1, 324, 6]
    >>> lets_count(((2, 1), (2, 1)))
    raises InvalidPaper(word='order', at=1)
    >>> lets_rule((('ring', 2), ('act', 6, 4, 5)))
    raises InvalidPaper(word='share', at=1)
"""

PARTS = """
    >>> from forcedtables.countparts import count_of, how_many_divisors, power_of, primes_of, units_of, value_of
    >>> FORTY = ((2, 3), (5, 1))
    >>> [value_of(FORTY), primes_of(FORTY), power_of(FORTY, 2), power_of(FORTY, 3), how_many_divisors(FORTY), units_of(FORTY)]
    [40, (2, 5), 3, 0, 8, 16]
    >>> [count_of(360), count_of(1), count_of(128), count_of(10007)]
    [((2, 3), (3, 2), (5, 1)), (), None, None]
"""

CHANGES = """
    >>> from forcedtables.countchanges import common, joined, lifted, lowered, over, square_free_of, times, without_prime
    >>> [times(FORTY, SIX), over(FORTY, ((2, 1),)), common(FORTY, THIRTY), joined(FORTY, SIX)]
    [((2, 4), (3, 1), (5, 1)), ((2, 2), (5, 1)), ((2, 1), (5, 1)), ((2, 3), (3, 1), (5, 1))]
    >>> [lifted(SIX, 5) == THIRTY, lifted(SIX, 3), lowered(SIX, 3), without_prime(FORTY, 2), square_free_of(FORTY)]
    [True, ((2, 1), (3, 2)), ((2, 1),), ((5, 1),), ((2, 1), (5, 1))]
    >>> over(SIX, FIFTEEN)
    raises NotUsable(word='other', at=-1)
"""

TEXTS = """
    >>> from forcedtables.countreadings import count_read
    >>> from forcedtables.counttexts import count_text
    >>> from forcedtables.rulereadings import rule_read
    >>> from forcedtables.ruletexts import rule_text
    >>> [count_text(FORTY), count_text(()), rule_text((FOUR, ('act', 7, 3, 2))), rule_read('ring 6 | knot 3'), count_read('2^3 5^1') == FORTY]
    ['2^3 5^1', '1', 'turn 2 0,1/1,1 3 | act 7 3 2', (('ring', 6), ('knot', 3)), True]
    >>> count_read('5^1 2^3')
    raises InvalidText(line=0, field=1)
    >>> rule_read('act 7 3 3')
    raises InvalidText(line=0, field=3)
"""

COUNT_CLASSES = """
    >>> from forcedtables.countclasses import Count, Free
    >>> one = Count((2, 3), (5, 1))
    >>> [one.value_now, one[5], one[3], 2 in one, 3 in one, len(one), list(one), str(one)]
    [40, 1, 0, True, False, 2, [(2, 3), (5, 1)], '2^3 5^1']
    >>> [(one * SIX).count_now, (one // ((2, 1),)).value_now, (one & Free(7, 5)).primes_now, Count.of(SIX).divides(one * SIX), Count.of_number(40) == one]
    [((2, 4), (3, 1), (5, 1)), 20, (5,), True, True]
    >>> [Free(5, 2, 3) == Count.of(THIRTY), Free(7, 3, 2).acting_now, one.without(2).count_now]
    [True, ((2, 3), (2, 7), (3, 7)), ((5, 1),)]
    >>> Free(2, 4)
    raises NotUsable(word='primes', at=1)
"""

RULES = """
    >>> from forcedtables.rules import back, commutes_with, is_element, one_of, product_of, put_together, swap_of, to_the, turned_by
    >>> S3 = (('act', 3, 2, 2),)
    >>> A, B = ((1, 0),), ((0, 1),)
    >>> [put_together(S3, A, B), put_together(S3, B, A), one_of(S3), back(S3, ((1, 1),)), to_the(S3, A, -1)]
    [((1, 1),), ((2, 1),), ((0, 0),), ((1, 1),), ((2, 0),)]
    >>> [commutes_with(S3, A, B), turned_by(S3, A, B), swap_of(S3, A, B), product_of(S3, A, A, B), product_of(S3), is_element(S3, (1, 0))]
    [False, ((2, 0),), ((1, 0),), ((2, 1),), ((0, 0),), False]
    >>> MIXED = (('knot', 2), ('turn', 2, ((0, 1), (1, 1)), 3), ('ring', 10))
    >>> put_together(MIXED, ((1, 0, 1), ((1, 0), 1), 7), ((0, 1, 1), ((1, 0), 0), 6))
    ((1, 1, 1), ((1, 1), 1), 3)
    >>> [back(MIXED, ((1, 0, 1), ((1, 0), 1), 7)), to_the((('ring', 9),), (7,), 10 ** 40)]
    [((1, 0, 1), ((1, 1), 2), 3), (7,)]
    >>> put_together(S3, A, (0, 1))
    raises NotUsable(word='other', at=-1)
"""

ORDERS = """
    >>> from forcedtables.orders import order_of, order_of_rule, powers_of, span_of
    >>> [order_of(S3, A), order_of(S3, ((1, 1),)), order_of_rule(S3), span_of(S3), list(powers_of(S3, A))]
    [3, 2, 6, 6, [((0, 0),), ((1, 0),), ((2, 0),)]]
    >>> SOME = ((1, 1, 0), ((1, 0), 1), 4)
    >>> [order_of(MIXED, SOME), order_of_rule(MIXED), span_of(MIXED)]
    [60, 960, 60]
"""

PLACING = """
    >>> from forcedtables.placing import element_at, number_of
    >>> [element_at(S3, 4), number_of(S3, ((2, 1),)), number_of(MIXED, SOME), element_at(MIXED, 794) == SOME]
    [((2, 0),), 5, 794, True]
    >>> element_at(S3, 6)
    raises NotUsable(word='number', at=-1)
"""

ELEMENTS = """
    >>> from forcedtables.elementclasses import Element, Placed
    >>> from forcedtables.walkers import Walker
    >>> a, b = Element(S3, A), Element(S3, B)
    >>> [str(a * b), (b * a).value_now, a.order(), a.to_the(-1) == a.back(), a.turned_by(b) == a * a, a[0], list(a), len(a)]
    ['1;1', ((2, 1),), 3, True, True, (1, 0), [(1, 0)], 1]
    >>> one = Placed(MIXED, 2, 4)
    >>> [one.value_now, one.index_now, one.order(), one == Element(MIXED, one.value_now)]
    [((0, 0, 0), ((0, 0), 0), 4), 2, 5, True]
    >>> a * one
    raises NotUsable(word='other', at=-1)
    >>> walker = Walker(S3)
    >>> [walker.step(A), walker.step(B), walker.home(), walker(A), walker.undo(), walker.steps_now, list(walker)]
    [((1, 0),), ((1, 1),), 2, ((2, 1),), ((0, 1),), (((1, 0),),), [((1, 0),)]]
"""

PICTURES = """
    >>> from forcedtables.elementreadings import element_read
    >>> from forcedtables.elementtexts import element_text
    >>> from forcedtables.pictures import picture, story, table_of
    >>> [element_text(MIXED, SOME), element_read(S3, '2;1'), picture(S3, (A, B)), table_of(S3, (B,)), story(S3, (A, B, A))]
    ['1,1,0 1,0;1 4', ((2, 1),), ['4 3', '5 0'], ((((0, 0),),),), '0;0 > 1;0 > 1;1 > 0;1']
    >>> element_read(MIXED, '1,1,0')
    raises InvalidText(line=0, field=1)
"""

FORCED = """
    >>> from forcedtables.forced import acts_at, all_commute, all_cyclic, all_split, forced_between, kinds_forced, reasons_against
    >>> EIGHT, TWELVE, FORTYFIVE = ((2, 3),), ((2, 2), (3, 1)), ((3, 2), (5, 1))
    >>> [all_cyclic(FIFTEEN), all_cyclic(FORTYFIVE), all_commute(FORTYFIVE), all_commute(EIGHT), all_split(EIGHT), all_split(TWELVE), all_cyclic(())]
    [True, False, True, False, True, False, True]
    >>> [kinds_forced(count) for count in (FIFTEEN, FORTYFIVE, EIGHT, SIX)]
    [('cyclic', 'commute', 'split'), ('commute', 'split'), ('split',), ()]
    >>> all_cyclic(((4, 1),))
    raises NotUsable(word='count', at=-1)
    >>> [acts_at(TWELVE, 3, 2), acts_at(TWELVE, 2, 3), acts_at(SIX, 3, 2), acts_at(FORTYFIVE, 5, 3)]
    [2, 1, None, None]
    >>> [reasons_against(TWELVE, 'commute'), reasons_against(FORTYFIVE, 'cyclic'), reasons_against(EIGHT, 'commute')]
    [(('act', 2, 3, 1), ('act', 3, 2, 2)), (('power', 3, 2),), (('power', 2, 3),)]
    >>> acts_at(SIX, 2, 2)
    raises NotUsable(word='other', at=-1)
    >>> [forced_between(1, 20, 'cyclic'), forced_between(4, 12, 'commute'), forced_between(8, 6, 'split'), forced_between(128, 130, 'split')]
    [(1, 2, 3, 5, 7, 11, 13, 15, 17, 19), (4, 5, 7, 9, 11), (), ()]
"""

OTHERWISE = """
    >>> from forcedtables.judging import does_commute, does_split, is_cyclic, shown_against
    >>> from forcedtables.otherwise import not_commuting, not_cyclic, not_split, piece_of_act
    >>> [is_cyclic(not_cyclic(FORTYFIVE)), does_commute(not_commuting(EIGHT)), does_split(not_split(TWELVE)), not_cyclic(FIFTEEN), not_commuting(FORTYFIVE)]
    [False, False, False, None, None]
    >>> [piece_of_act(SIX, 2, 3), piece_of_act(TWELVE, 3, 2)[::3], piece_of_act(SIX, 3, 2)]
    [('act', 3, 2, 2), ('turn', 3), None]
"""

JUDGING = """
    >>> FOURFOLD, KNOT, DIHEDRAL = (('ring', 2), ('ring', 2)), (('knot', 2),), (('act', 3, 2, 2),)
    >>> [[is_cyclic(rule), does_commute(rule), does_split(rule)] for rule in ((('ring', 6),), FOURFOLD, KNOT, DIHEDRAL, (('act', 5, 2, 1), ('ring', 7)))]
    [[True, True, True], [False, True, True], [False, False, True], [False, False, False], [True, True, True]]
    >>> from forcedtables.shownchecker import lets_shown
    >>> [shown_against((('ring', 15),), 'cyclic'), shown_against(KNOT, 'split'), lets_shown(KNOT, 'cyclic', shown_against(KNOT, 'cyclic'))]
    [None, None, True]
"""

PAPERS = """
    >>> A, B = ((1, 0),), ((0, 1),)
    >>> [lets_shown(DIHEDRAL, 'commute', ('apart', A, B)), lets_shown(DIHEDRAL, 'split', ('torn', A, B, 3, 2)), lets_shown(FOURFOLD, 'cyclic', ('twins', (1, 0), (0, 1), 2))]
    [True, True, True]
    >>> lets_shown((('ring', 6),), 'cyclic', ('twins', (2,), (4,), 3))
    raises InvalidPaper(word='among', at=2)
    >>> from forcedtables.forcedchecker import lets_forced
    >>> from forcedtables.forcedpapers import forced_paper
    >>> [forced_paper(FORTYFIVE, 'commute'), lets_forced(FIFTEEN, 'cyclic', ('all', ((2,), (3,)))), lets_forced(SIX, 'split', ('otherwise', DIHEDRAL, ('torn', A, B, 3, 2)))]
    [('all', ((2,), (3, 4))), True, False]
    >>> lets_forced(SIX, 'cyclic', ('all', ((1,), (2,))))
    raises InvalidPaper(word='one', at=(0, 0))
"""

FORCED_CLASSES = """
    >>> from forcedtables.forcedclasses import Forced
    >>> one = Forced(FIFTEEN)
    >>> [one['cyclic'], one('split'), len(one), str(one), str(one * Forced(((3, 1),))), (one * Forced(((2, 1),))).of_count, str(Forced(SIX)), ('act', 2, 3, 1) in Forced(SIX)]
    [True, None, 3, 'cyclic commute split', 'commute split', ((2, 1), (3, 1), (5, 1)), '-', True]
"""

CHOICES = """
    >>> from forcedtables.choicechecker import lets_choice
    >>> from forcedtables.choices import at_rest, choices_of, group_of, how_many_groups, root_of
    >>> [choices_of(SIX), choices_of(THIRTY), how_many_groups(FIFTEEN), how_many_groups(((2, 1), (3, 1), (5, 1), (7, 1)))]
    [((), ((2, (1,)),)), ((), ((2, (0, 1)),), ((2, (1, 0)),), ((2, (1, 1)),)), 1, 12]
    >>> [root_of(2, 5), root_of(3, 7), root_of(5, 11), at_rest(THIRTY, ((2, (1, 1)),))]
    [4, 2, 3, (3, 5)]
    >>> [group_of(SIX, ()), group_of(SIX, ((2, (1,)),)), group_of(THIRTY, ((2, (1, 1)),))]
    [(('act', 6, 1, 1),), (('act', 3, 2, 2),), (('act', 15, 2, 14),)]
    >>> THREES = ((3, 1), (7, 1), (13, 1))
    >>> [how_many_groups(THREES), group_of(THREES, ((3, (1, 1)),)), group_of(THREES, ((3, (1, 2)),))]
    [5, (('act', 91, 3, 16),), (('act', 91, 3, 9),)]
    >>> lets_choice(THIRTY, ((2, (1, 1)), (3, (1,))))
    raises InvalidPaper(word='row', at=0)
    >>> lets_choice(THIRTY, ((3, (0, 1)),))
    raises InvalidPaper(word='number', at=(0, 1))
    >>> lets_choice(THREES, ((3, (2, 1)),))
    raises InvalidPaper(word='first', at=0)
"""

ORDER_LOOKS = """
    >>> from forcedtables.orderlooks import central_in, many_of_order, orders_in
    >>> [orders_in(SIX, ((2, (1,)),)), orders_in(THIRTY, ((2, (1, 0)),))]
    [((1, 1), (2, 3), (3, 2)), ((1, 1), (2, 3), (3, 2), (5, 4), (10, 12), (15, 8))]
    >>> [many_of_order(THREES, ((3, (1, 2)),), order) for order in (3, 21)]
    [182, 0]
    >>> [many_of_order(THREES, ((3, (0, 1)),), 21), central_in(THIRTY, ((2, (1, 0)),)), central_in(THIRTY, ())]
    [156, 5, 30]
    >>> orders_in(THREES, ((3, (1, 1)),)) == orders_in(THREES, ((3, (1, 2)),))
    True
"""

LEADING = """
    >>> from forcedtables.leading import are_alike, choice_of
    >>> [choice_of((("ring", 2), ("ring", 5))), choice_of((("ring", 5), ("act", 3, 2, 2)))]
    [(((2, 1), (5, 1)), ()), (((2, 1), (3, 1), (5, 1)), ((2, (1, 0)),))]
    >>> [choice_of((("turn", 7, ((4,),), 3),))[1], choice_of((("act", 91, 3, 81),))[1], choice_of((("act", 5, 6, 4),))[1]]
    [((3, (1,)),), ((3, (1, 2)),), ((2, (0, 1)),)]
    >>> [are_alike((("act", 91, 3, 16),), (("act", 91, 3, late),)) for late in (9, 74)]
    [False, True]
    >>> choice_of((("power", 5, 2),))
    raises NotUsable(word='rule', at=-1)
"""

LIKE = """
    >>> from forcedtables.likechecker import lets_alike, lets_like
    >>> from forcedtables.likepapers import alike_paper, like_paper
    >>> MIXED = (("ring", 5), ("act", 3, 2, 2))
    >>> lets_like(MIXED, (THIRTY, ((2, (1, 0)),), (1, (1, 0)), (0, (0, 1))))
    (((2, 1), (3, 1), (5, 1)), ((2, (1, 0)),))
    >>> [lets_like(MIXED, like_paper(MIXED))[1], lets_alike(MIXED, (("ring", 30),), alike_paper(MIXED, (("ring", 30),)))]
    [((2, (1, 0)),), False]
    >>> lets_like(MIXED, (THIRTY, ((2, (1, 0)),), (0, (1, 0)), (0, (0, 1))))
    raises InvalidPaper(word='rest', at=1)
"""

GROUPS = """
    >>> from forcedtables.groupclasses import Group
    >>> from forcedtables.stretches import groups_between, numbers_with
    >>> [groups_between(1, 11), numbers_with(4, 1, 100), numbers_with(2, 30, 39)]
    [((1, 1), (2, 1), (3, 1), (5, 1), (6, 2), (7, 1), (10, 2)), (30, 66, 70), (34, 38)]
    >>> one = Group(SIX, ((2, (1,)),))
    >>> [list(one), one[2], 6 in one, len(one), one.rule_now, one == Group.of((("turn", 3, ((2,),), 2),))]
    [[1, 2, 3], 3, False, 3, (('act', 3, 2, 2),), True]
    >>> late = one * Group(((5, 1),), ())
    >>> [late.choice_now, late[10], late == Group.of(MIXED)]
    [((2, (1, 0)),), 12, True]
    >>> one * one
    raises NotUsable(word='other', at=-1)
"""

LIVES = """
    >>> from forcedtables.lives import Live
    >>> live = Live(())
    >>> [live.put(3), live.put(5), live.value_now, live.groups(), live.put(2), live.words(), live.clashes(), live.groups()]
    [((), ()), ((), ()), 15, 1, ((), ('commute', 'cyclic', 'split')), (), ((3, 2), (5, 2)), 4]
    >>> [live.drop(2), live.put(3), live.count_now, live.groups(), live.fits('split', 20), live.fits('cyclic', 20)]
    [(('commute', 'cyclic', 'split'), ()), ((), ('cyclic',)), ((3, 2), (5, 1)), None, (17,), ()]
"""

EVENTS_BARRED = """
    >>> live = Live(FIFTEEN, hold='cyclic')
    >>> [live.do_all(('note', 'm'), ('prime', 17)), live.barred(('prime', 3)), live.barred(('drop', 2)), live.set_hold('off'), live.put(2)]
    [2, 'held', 'absent', None, ((), ('commute', 'cyclic', 'split'))]
    >>> [live.table(), live.since('m'), live.count_then('m'), live.barred(('hold', 'split')), live[2], list(live), live.tally()]
    [['2 1 -', '3 1 2', '5 1 2', '17 1 2'], ((), ('commute', 'cyclic', 'split')), ((3, 1), (5, 1)), 'false', 1, [2, 3, 5, 17], (3, 3)]
"""

LINES = """
    >>> from forcedtables.eventreadings import read_event, read_log
    >>> from forcedtables.eventtexts import event_line, log_lines
    >>> [event_line(('prime', 101)), read_event('hold split'), log_lines((('live', FIFTEEN, 'cyclic'), ('drop', 5))), log_lines(Live(()).log())]
    ['prime 101', ('hold', 'split'), ['live cyclic 3^1 5^1', 'drop 5'], ['live off 1']]
    >>> read_event('prime 91')
    raises InvalidText(line=0, field=1)
    >>> read_log(['live cyclic 2^1 3^1'])
    raises InvalidText(line=0, field=1)
"""

DESKS = """
    >>> from forcedtables.desk import Desk
    >>> desk = Desk()
    >>> [desk.say(row) for row in ('live off 1', 'prime 2', 'prime 3', 'groups', 'clashes', 'fits split 20', 'bars drop 5', 'table', 'undo', 'count')]
    ['ok', '- / -', '- / commute cyclic split', '2', '3:2', '-', 'absent', '2 1 - / 3 1 2', 'prime 3', '2^1']
"""


def told(line, names):
    """What the document prints below a line."""
    try:
        return repr(eval(line, names))
    except GroupError as error:
        fields = ", ".join(f"{field}={part!r}" for field, part in vars(error).items())
        return f"raises {type(error).__name__}({fields})"


class Examples(unittest.TestCase):
    maxDiff = None

    def follow(self, *texts):
        """Go through texts of examples, one behind the other, with one set of names."""
        names = {}
        lines = [line.strip() for text in texts for line in text.strip().split("\n")]
        for line, below in zip(lines, lines[1:] + [">>> "]):
            if not line.startswith(">>> "):
                continue
            if below.startswith(">>> "):
                exec(line[4:], names)
            else:
                self.assertEqual(told(line[4:], names), below, line)

    def test_kinds_and_checkers(self):
        self.follow(COUNTS, KINDS, CHECKERS)

    def test_parts_and_changes(self):
        self.follow(COUNTS, PARTS, CHANGES)

    def test_texts(self):
        self.follow(COUNTS, KINDS, PARTS, TEXTS)

    def test_classes_of_counts(self):
        self.follow(COUNTS, COUNT_CLASSES)

    def test_rules_and_orders(self):
        self.follow(COUNTS, RULES, ORDERS)

    def test_elements_by_numbers_as_objects_and_in_pictures(self):
        self.follow(COUNTS, RULES, ORDERS, PLACING, ELEMENTS, PICTURES)

    def test_what_a_count_forces(self):
        self.follow(COUNTS, FORCED, OTHERWISE, JUDGING, PAPERS, FORCED_CLASSES)

    def test_choices_and_rules_led_to_them(self):
        self.follow(COUNTS, CHOICES, ORDER_LOOKS, LEADING, LIKE)

    def test_groups_as_objects(self):
        self.follow(COUNTS, """
            >>> MIXED = (("ring", 5), ("act", 3, 2, 2))
        """, GROUPS)

    def test_live_numbers(self):
        self.follow(COUNTS, LIVES, EVENTS_BARRED)

    def test_lines(self):
        self.follow(COUNTS, """
            >>> from forcedtables.lives import Live
        """, LINES)

    def test_a_desk(self):
        self.follow(DESKS)

    def test_the_whole_document_in_one_run(self):
        self.follow(COUNTS, KINDS, CHECKERS, PARTS, CHANGES, TEXTS, COUNT_CLASSES, RULES, ORDERS, PLACING, ELEMENTS,
                    PICTURES, FORCED, OTHERWISE, JUDGING, PAPERS, FORCED_CLASSES, CHOICES, ORDER_LOOKS, LEADING, LIKE,
                    GROUPS, LIVES, EVENTS_BARRED, LINES, DESKS)

    def test_what_is_said_below_them(self):
        self.follow(RULES, ORDERS, """
            >>> [put_together(S3, B, A), 0 + 2 * 1, 1 + 0]
            [((2, 1),), 2, 1]
            >>> [order_of((piece,), (part,)) for piece, part in zip(MIXED, SOME)]
            [4, 3, 5]
            >>> to_the((("knot", 2),), ((1, 1, 0),), 2)
            ((0, 0, 1),)
        """)

    def test_powers_of_two_and_three_modulo_seven(self):
        self.follow("""
            >>> [2 ** 3 % 7, 3 ** 3 % 7 == 1]
            [1, False]
        """)

    def test_what_is_said_below_what_a_count_forces(self):
        self.follow(COUNTS, FORCED, JUDGING.split("    >>> [[")[0], """
            >>> from forcedtables.rules import put_together
            >>> A, B = ((1, 0),), ((0, 1),)
            >>> [put_together(DIHEDRAL, A, B), put_together(DIHEDRAL, B, A)]
            [((1, 1),), ((2, 1),)]
            >>> [3 % 5, 9 % 5, 5 % 3, (2 ** 2 - 1) % 3, 2 ** 7, 3 * 43, 42 % 3]
            [3, 4, 2, 0, 128, 129, 0]
        """)

    def test_what_is_said_below_choices(self):
        self.follow("""
            >>> from forcedtables.choices import root_of
            >>> [root_of(3, 7), root_of(3, 13), 16 % 7, 16 % 13, 9 % 7, 9 % 13, 3 * 3]
            [2, 3, 2, 3, 2, 9, 9]
            >>> [81 % 7 == 2 * 2, 81 % 13, tuple(2 * number % 3 for number in (2, 1))]
            [True, 3, (1, 2)]
        """)

    def test_what_is_said_below_live_numbers(self):
        self.follow("""
            >>> [[(p - 1) % q == 0 for p, q in ((3, 2), (7, 3), (11, 5), (13, 3), (19, 3), (17, 3), (17, 5))]]
            [[True, True, True, True, True, False, False]]
        """)
