"""Link papers and their checker: points 33 and 34."""

from mumhouse.errors import InvalidGrouping, InvalidPaper, UnfitExpression
from mumhouse.knowing import values_in
from mumhouse.linkchecker import lets_link
from mumhouse.linkpapers import link_paper
from mumhouse.views import implied_grouping
from tests.samples import ANN, ANY, BOB, IS, PAY, SUM, SUMS, W, Case
from tests.test_groupings import partitions, refines
from tests.test_knowing import UNFIT_ASKS
from tests.test_views import ALONE, ASKED, WRONG_SHAPES, classes, samples


class PaperTest(Case):
    def test_what_is_returned_is_accepted(self):
        for maker, worlds, asked in samples(51, 60):
            ask = maker.ask()
            found = implied_grouping(PAY, worlds, asked, ask)
            values = values_in(PAY, worlds, ask)
            for one in values:
                for other in values:
                    paper = link_paper(PAY, worlds, asked, ask, one, other)
                    linked = any(one in group and other in group for group in found)
                    self.same(paper[0], 'linked' if linked else 'apart')
                    self.same(lets_link(PAY, worlds, asked, ask, one, other, paper), linked)

    def test_forms(self):
        self.same(link_paper(PAY, W, ASKED, ANN, 0, 1), ('apart', ((0,), (1, 2))))
        self.same(link_paper(PAY, W[:1], (), ANN, 0, 0), ('linked', (W[0],)))
        self.same(link_paper(house=PAY, worlds=W[:1], asked=(), ask=ANN, one=0, other=0), ('linked', (W[0],)))

    def test_a_long_row(self):
        # Only from pair to pair: 0 and 1 look alike, 1 and 2 do, and so on.
        house = (('a',), (('p', 0, 1), ('q', 0, 6)), ())
        worlds = tuple(((p, q),) for p in range(2) for q in range(7) if p == 0 or q > 0)
        ask = ('-', ('of', 'a', 'q'), ('of', 'a', 'p'))
        asked = ((('of', 'a', 'q'), tuple((q,) for q in range(7))),)
        paper = link_paper(house, worlds, asked, ask, 0, 6)
        self.same(lets_link(house, worlds, asked, ask, 0, 6, paper), True)
        self.same(lets_link(house, worlds, asked, ask, 6, 0, link_paper(house, worlds, asked, ask, 6, 0)), True)


class ErrorsTest(Case):
    def each(self, error, fields, *given):
        self.raises(error, fields, link_paper, *given)
        self.raises(error, fields, lets_link, *given, None)

    def test_asked(self):
        for thing, path in UNFIT_ASKS:
            self.each(UnfitExpression, [path], PAY, W, (*ASKED, (thing, None)), True, None, None)
        for grouping in WRONG_SHAPES:
            self.each(InvalidGrouping, ['shape', -1], PAY, W, ((ANN, grouping), (True, None)), True, None, None)
        self.each(InvalidGrouping, ['values', -1], PAY, W, ((ANN, ((0,),)), (True, None)), True, None, None)

    def test_ask(self):
        for thing, path in UNFIT_ASKS:
            self.each(UnfitExpression, [path], PAY, W, ASKED, thing, None, None)

    def test_values(self):
        for value in (*ANY, 3, -1, 10 ** 59):
            self.each(InvalidGrouping, ['value', value], PAY, W, ASKED, ANN, value, 0)
            self.each(InvalidGrouping, ['value', value], PAY, W, ASKED, ANN, value, 'other')
            self.each(InvalidGrouping, ['value', value], PAY, W, ASKED, ANN, 0, value)
        self.each(InvalidGrouping, ['value', True], PAY, W, (), IS, True, 1)
        self.each(InvalidGrouping, ['value', False], PAY, W, (), IS, 0, False)
        self.each(InvalidGrouping, ['value', 2], PAY, W[:6], (), ANN, 2, 3)

    def test_the_very_object_is_kept(self):
        value = [['odd']]
        for function, more in ((link_paper, ()), (lets_link, (None,))):
            with self.assertRaises(InvalidGrouping) as caught:
                function(PAY, W, (), ANN, 0, value, *more)
            self.assertIs(caught.exception.at, value)


class CheckerTest(Case):
    def wrong(self, word, at, thing, asked=ASKED, ask=ANN, one=0, other=2, worlds=W):
        self.raises(InvalidPaper, [word, at], lets_link, PAY, worlds, asked, ask, one, other, thing)

    def accepted(self, due, thing, asked=ASKED, ask=ANN, one=0, other=2, worlds=W):
        self.same(lets_link(PAY, worlds, asked, ask, one, other, thing), due)

    def test_examples(self):
        self.accepted(True, ('linked', (((0,), (2,)), ((2,), (0,)))), ASKED[:1])
        self.accepted(False, ('apart', ((0,), (1, 2))))

    def test_accepted(self):
        self.accepted(True, ('linked', (W[5], W[8])), one=1)
        self.accepted(True, ('linked', (W[3], W[4], W[5], W[5], W[8], W[7])), one=1)
        self.accepted(True, ('linked', (W[6],)), one=2)
        self.accepted(True, ('linked', (W[0], W[8])), ())
        self.accepted(True, ('linked', (W[0], W[2], W[6], W[6], W[8])), ASKED[:1])
        self.accepted(False, ('apart', ((0,), (1, 2))), other=1)
        self.accepted(False, ('apart', ALONE), ((ANN, ALONE),))
        self.accepted(False, ('apart', ((0, 1), (2,))), ((ANN, ALONE),))
        self.same(lets_link(thing=('apart', ALONE), other=1, one=0, ask=ANN, asked=((ANN, ALONE),), worlds=W, house=PAY), False)

    def test_shape(self):
        for thing in (*ANY, 0, 'linked', ('linked',), ('apart',), ('linked', ()), ('linked', list(W)), ('linked', None),
                      ('linked', 0), ['linked', W], ('apart', list(ALONE)), ('apart', None), ('apart', ''), ['apart', ALONE],
                      ('apart', ALONE, ()), ('linked', W, W), ('Linked', W), ('', W), (True, W), (None, ALONE), ('', ()),
                      (('linked',), W), ('link', W), ('settled', W)):
            self.wrong('shape', -1, thing)

    def test_world(self):
        for thing in (*ANY, 0, ((0,),), ((0,), (3,)), ((0,), (True,)), ((False,), (0,)), [(0,), (0,)], ((0,), [0]),
                      ((0,), (0,), (0,)), W):
            self.wrong('world', 0, ('linked', (thing,)))
            self.wrong('world', 0, ('linked', (thing, W[8])))
            self.wrong('world', 2, ('linked', (W[0], W[1], thing, W[8])))
        self.wrong('world', 1, ('linked', (W[3], W[6])), worlds=W[:6], other=1)

    def test_step(self):
        self.wrong('step', 1, ('linked', (W[0], W[8])))
        self.wrong('step', 2, ('linked', (W[0], W[2], W[6])))
        self.wrong('step', 1, ('linked', (W[2], W[6])))
        self.wrong('step', 3, ('linked', (W[3], W[5], W[8], W[2])), one=1)
        self.wrong('step', 1, ('linked', (W[3], W[6])), ((SUM, SUMS),), one=1)

    def test_first_and_last(self):
        self.wrong('first', -1, ('linked', (W[3], W[5], W[8])))
        self.wrong('first', -1, ('linked', (W[3],)))
        self.wrong('first', -1, ('linked', (W[8], W[6])), one=1)
        self.wrong('last', -1, ('linked', (W[0], W[1])))
        self.wrong('last', -1, ('linked', (W[3], W[4], W[5])), one=1)
        self.wrong('last', -1, ('linked', (W[0], W[1], W[2])), other=1)

    def test_grouping(self):
        for grouping in WRONG_SHAPES:
            if isinstance(grouping, tuple):
                self.wrong('grouping', -1, ('apart', grouping))
        for grouping in ((), ((0,), (2,)), ((0,), (1,)), ((0,), (1,), (2,), (3,)), ((0, 2),), ((0,), (1, 2, 9)), ((3,), (4,))):
            self.wrong('grouping', -1, ('apart', grouping))
        self.accepted(False, ('apart', ((0,), (1,))), ((ANN, ALONE),), other=1, worlds=W[:6])
        self.wrong('grouping', -1, ('apart', ALONE), ((ANN, ALONE),), other=1, worlds=W[:6])

    def test_together(self):
        self.wrong('together', -1, ('apart', ((0, 2), (1,))))
        self.wrong('together', -1, ('apart', ((0, 1, 2),)))
        self.wrong('together', -1, ('apart', ALONE), one=1, other=1)
        self.wrong('together', -1, ('apart', ((0,), (1, 2))), one=2, other=1)
        self.wrong('together', -1, ('apart', ((0,), (1, 2))), one=2, other=2)

    def test_class(self):
        for grouping in partitions((0, 1, 2)):
            for asked in (ASKED, (), ASKED[:1], ((ANN, ALONE),), ((IS, ((0,), (1,))),)):
                if not any(0 in group and 2 in group for group in grouping):
                    wrong = [n for n, some in enumerate(classes(W, asked))
                             if not refines((values_in(PAY, some, ANN),), grouping)]
                    if wrong:
                        self.wrong('class', wrong[0], ('apart', grouping), asked)
                    else:
                        self.accepted(False, ('apart', grouping), asked)
        self.wrong('class', 0, ('apart', ALONE), ())
        self.wrong('class', 5, ('apart', ALONE))
        self.wrong('class', 1, ('apart', ALONE), ((SUM, SUMS),))

    def test_several_at_once(self):
        self.wrong('world', 1, ('linked', (W[8], None, W[0])))
        self.wrong('step', 1, ('linked', (W[8], W[0], None)))
        self.wrong('step', 1, ('linked', (W[8], W[0])))
        self.wrong('first', -1, ('linked', (W[5], W[8], W[5])))
        self.wrong('grouping', -1, ('apart', ((0, 2),)))
        self.wrong('together', -1, ('apart', ((0, 2), (1,))), ())

    def test_exactly_one_form(self):
        for maker, worlds, asked in samples(52, 25):
            ask = maker.ask()
            values = values_in(PAY, worlds, ask)
            if len(values) > 4:
                continue
            for one in values:
                for other in values:
                    due = link_paper(PAY, worlds, asked, ask, one, other)[0]
                    found = []
                    for grouping in partitions(values):
                        try:
                            found.append(lets_link(PAY, worlds, asked, ask, one, other, ('apart', grouping)))
                        except InvalidPaper:
                            pass
                    self.same(bool(found), due == 'apart')

    def test_papers_of_other_askings(self):
        paper = ('linked', (W[2], W[6]))
        self.accepted(True, paper, ((SUM, SUMS),))
        self.wrong('step', 1, paper, ((BOB, ALONE),))
        self.wrong('first', -1, paper, ((SUM, SUMS),), BOB, 0, 2)
        self.wrong('last', -1, paper, ((SUM, SUMS),), BOB, 2, 1)
        self.accepted(True, paper, ((SUM, SUMS),), BOB, 2, 0)
        self.wrong('grouping', -1, ('apart', ((0,), (1, 2))), ASKED, SUM, 0, 1)
        self.wrong('class', 0, ('apart', ((0,), (1, 2))), ())
