"""The examples of the interface, file by file, as the document has them."""

EXAMPLES = (
    ('checks', '''
>>> [is_integer(True), is_within(3, None, 3), is_name("a1"), are_integers([1, True]), is_ratio((2, 4)), is_ratio([-3, 2]), is_lot([0, 2], 2), is_lot((0, 2), 3), first_twice([2, 1, 1, 2])]
[False, True, True, False, False, True, False, True, 1]
>>> [common_divisor([-12, 18, 0]), common_divisor([]), lowest(6, -4), compared((1, 3), (3, 10)), compared((-1, 2), (0, 1))]
[6, 0, (-3, 2), 1, -1]
'''),
    ('papers', '''
>>> note = Paper("note", [1, (2, [3])])
>>> [note.parts, bool(note), bool(Denial("no")), note == Denial("note", [1, (2, [3])])]
[((1, (2, (3,))),), True, False, False]
'''),
    ('books', '''
>>> book = Book([11, 5], [(0, 0, 7), (1, 0, 3)])
>>> [str(book), book.sorts, book.is_plain, book.things_at(1, 10), Book([11], [(0, 0, 7)]).is_plain]
['11 5 : 0 0 7 / 0 1 3', ((0, 0, 7), (0, 1, 3)), False, 100000, True]
>>> [str(book.with_size(1, 6)), str(book.with_thinness(0, 8)), str(Book([2]).with_sort(0, 0, 1)), str(Book([2]))]
['11 6 : 0 0 7 / 0 1 3', '11 5 : 0 0 8 / 0 1 3', '2 : 0 0 1', '2 : -']
>>> Book.read("11 5 : 0 0 7 / 1 0 3")
raises BadText(0, 8)
>>> book.with_thinness(2, 5)
raises NoSort(2)
'''),
    ('webs', '''
>>> three, way = Web.all_tied(3), Web([0, 1, 0], [(2, 1, 1), (0, 1, 1)])
>>> [str(three), str(way), way.ties, str(Web.way(2)), str(Web.ring(4)), str(Web([1]))]
['0 0 0 : 0 1 0 / 0 2 0 / 1 2 0', '0 1 0 : 0 1 1 / 1 2 1', ((0, 1, 1), (1, 2, 1)), '0 0 0 : 0 1 0 / 1 2 0', '0 0 0 0 : 0 1 0 / 0 3 0 / 1 2 0 / 2 3 0', '1 : -']
>>> [str(way.part([2, 1])), way.tie_numbers((1, 2)), str(three.without_ties([1])), str(way.with_tie(2, 0, 0)), str(Web([0]).beside(Web([1, 1], [(0, 1, 0)])))]
['0 1 : 0 1 1', (1,), '0 0 0 : 0 1 0 / 1 2 0', '0 1 0 : 0 1 1 / 0 2 0 / 1 2 1', '0 1 1 : 1 2 0']
>>> [fits(book, three), fits(book, way), fits(book, Web.way(1, 1)), fits(Book([3]), Web([0, 0]))]
[True, True, False, True]
>>> Web([0, 0], [(0, 1, 0), (1, 0, 0)])
raises Twice((1, 0, 0))
>>> Web.read("0 0 0 : 1 0 0")
raises BadText(0, 5)
'''),
    ('layings', '''
>>> [parts(Web.way(1)), many_layings(Web.way(1), three), layings(Web.way(2), Web.way(2)), first_laying(three, Web.ring(4)), turns(three), turns(Web.ring(4))]
[((0,), (1,), (0, 1)), 6, ((0, 1, 2), (2, 1, 0)), None, 6, 8]
>>> [alike(way, way.in_order([1, 0, 2])).laying, alike(three, Web.way(2)).what, alike(three, way).what, bool(alike(Web.way(3), Web([0] * 4, [(0, 1, 0), (0, 2, 0), (0, 3, 0)])))]
[(1, 0, 2), 'ties', 'points', False]
'''),
    ('glued', '''
>>> [str(glued(three, three, [(0, 1), (2, 0)])), str(glued(three, Web.way(1), [(1, 0)])), str(glued(Web([0]), Web([1]), []))]
['0 0 0 0 : 0 1 0 / 0 2 0 / 0 3 0 / 1 2 0 / 2 3 0', '0 0 0 0 : 0 1 0 / 0 2 0 / 1 2 0 / 1 3 0', '0 1 : -']
>>> glued(three, way, [(0, 0), (1, 1)])
raises Misfit('kinds')
'''),
    ('weights', '''
>>> book, four, five = Book([11], [(0, 0, 7)]), Web.all_tied(4), Web.all_tied(5)
>>> [weight(book, four), weight(book, four, [2, 0]), weight(book, four, []), weight(book, five), least_parts(book, four), least_parts(book, five)]
[2, 15, 0, -15, (0, (), ()), (-15, (0, 1, 2, 3, 4), (0, 1, 2, 3, 4))]
>>> even = Book([1], [(0, 0, 1)])
>>> [least_parts(even, Web.all_tied(3)), least_parts(even, Web([0, 0, 0, 0], [(0, 1, 0), (0, 2, 0), (1, 2, 0), (2, 3, 0)]))]
[(0, (), (0, 1, 2)), (0, (), (0, 1, 2, 3))]
>>> weight(book, four, [1, 4, 1])
raises NoPoint(4)
'''),
    ('handings', '''
>>> [comes(book, four).word, comes(book, five) == Rare([0, 1, 2, 3, 4]), comes(even, Web.ring(4)) == OnBreak((0, 1, 2, 3)), bool(comes(even, Web.way(3)))]
['comes', True, True, True]
>>> comes(book, Web([0, 0])).parts
((),)
'''),
    ('heavy', '''
>>> [heavy_parts(even, four), fewest_struck(even, four), fewest_struck(book, five), fewest_struck(even, Web.ring(4)), heavy_parts(book, four), fewest_struck(book, four)]
[((0, 1, 2, 3),), (0, 1, 3), (0, 1, 2), (0,), (), ()]
'''),
    ('check_weights', '''
>>> cut = [(28, 0), (14, 14), (0, 28), (28, 0), (14, 14), (28, 0)]
>>> [shows_comes(book, four, Comes(cut)), shows_comes(book, four, Comes([(29, -1)] + cut[1:])), shows_comes(book, four, Comes(cut[:1] + [(16, 12)] + cut[2:]))]
[True, False, False]
>>> [shows_comes(even, four, Rare((0, 1, 2, 3))), shows_comes(even, four, OnBreak((0, 1, 2))), shows_comes(even, Web.ring(3), OnBreak([0, 1, 2]))]
[True, False, True]
'''),
    ('dials', '''
>>> plain, three, four = Book([11], [(0, 0, 7)]), Web.all_tied(3), Web.all_tied(4)
>>> [dial(plain, three, 0).parts, dial(plain, four, 0).parts, [comes_at(plain, four, 0, ratio) for ratio in ((7, 1), (22, 3), (15, 2))]]
[((11, 1), (0, 1, 2)), ((22, 3), (0, 1, 2, 3)), ['comes', 'break', 'rare']]
>>> tail = Web([0, 0, 0, 0], [(0, 1, 0), (0, 3, 0), (1, 3, 0), (2, 3, 0)])
>>> dial(plain, tail, 0).parts
((11, 1), (0, 1, 3))
>>> twice = Book([1, 2], [(0, 0, 2), (0, 1, 1)])
>>> bent = Web([0, 0, 1], [(0, 1, 0), (1, 2, 1)])
>>> [dial(twice, Web([0, 1], [(0, 1, 1)]), 0).word, dial(twice, bent, 1).word, dial(twice, bent, 1).parts, dial(twice, bent, 0).parts]
['any', 'barred', ((0, 1),), ((2, 1), (0, 1))]
>>> dial(plain, three, 1)
raises NoSort(1)
'''),
    ('polygons', '''
>>> pair = Book([1], [(0, 0, 1), (0, 0, 1)])
>>> ring = Web([0, 0, 0], [(0, 1, 0), (0, 2, 0), (1, 2, 1)])
>>> polygon(pair, ring, 0, 1).lines
((0, 1, 2), (2, 1, 3))
>>> polygon(pair, ring, 0, 1).corners
(((0, 1), (2, 1)), ((1, 2), (2, 1)), ((3, 2), (0, 1)))
>>> [polygon(pair, Web.way(1), 0, 1).parts, polygon(pair, Web.way(1), 1, 0).parts, polygon(pair, Web([0]), 0, 1).parts]
[(((1, 0, 2),), (((2, 1), (0, 1)),)), (((0, 1, 2),), (((0, 1), (2, 1)),)), ((), ())]
>>> wide = Book([3], [(0, 0, 1), (0, 0, 1), (0, 0, 6)])
>>> square = Web([0, 0, 0, 0], [(0, 1, 0), (0, 2, 1), (0, 3, 1), (1, 2, 1), (1, 3, 1), (2, 3, 0)])
>>> [polygon(wide, square, 0, 1).parts, polygon(wide, Web([0, 0], [(0, 1, 0), (0, 1, 2)]), 0, 1).parts]
[(((1, 2, 6),), (((0, 1), (3, 1)), ((6, 1), (0, 1)))), ((0, 1),)]
>>> polygon(pair, ring, 1, 1)
raises Twice(1)
'''),
    ('check_dials', '''
>>> [shows_dial(plain, tail, 0, Dial((11, 1), (0, 1, 2, 3))), shows_dial(plain, tail, 0, Dial((11, 1), (0, 1, 2))), shows_dial(plain, three, 0, Dial((22, 2), (0, 1, 2))), shows_dial(plain, three, 0, Any())]
[True, False, False, False]
>>> [shows_polygon(pair, ring, 0, 1, Polygon([(0, 1, 2), (2, 1, 3)], polygon(pair, ring, 0, 1).corners)), shows_polygon(pair, ring, 0, 1, Barred((0,)))]
[True, False]
'''),
    ('polynomials', '''
>>> p, line = Polynomial([2, 0, -1, 0]), Polynomial([-1, 1])
>>> [p.numbers, p.degree, p(3), p.shifted(1).numbers, (p * line).numbers, (p + line).numbers, (-p).numbers, (p - p).numbers, Polynomial([0]).degree]
[(2, 0, -1), 2, -7, (1, -2, -1), (-2, 2, 1, -1), (1, 1, -1), (-2, 0, 1), (), -1]
>>> [Polynomial.lone(2).numbers, Polynomial.falling(1, 3).numbers, Polynomial.falling(2, 2).numbers, Polynomial.falling(3, 0).numbers]
[(0, 0, 1), (0, 2, -3, 1), (0, 0, -1, 0, 1), (1,)]
'''),
    ('quotients', '''
>>> q = Quotient(Polynomial([0, 0, 3, 6]), 3)
>>> [q.over.numbers, q.power, q.at(2), (q * q).power, (q + Quotient(line, 0)).over.numbers, (q - q).power, Quotient(Polynomial([0, 4]), 0).over.numbers]
[(3, 6), 1, (15, 2), 2, (3, 5, 1), 0, (0, 4)]
'''),
    ('moments', '''
>>> even, tie = Book([1], [(0, 0, 1)]), Web.way(1)
>>> [sharings(tie), mean(even, tie).over.numbers, mean(even, tie).power, second(even, tie).over.numbers, second(even, tie).power]
[(((0, 0, 0), (0, 0, 0, 0), 1), ((1, 0, 0), (0, 0, 0, 0), 4), ((2, 0, 0), (1, 0, 0, 0), 2)), (-1, 1), 0, (2, -3, 0, 1), 1]
>>> [at_least(even, tie, 2), at_least(even, tie, 3), at_most(even, tie, 2), at_most(even, tie, 3), at_least(even, Web.way(2), 2), at_most(even, Web.way(2), 2)]
[(1, 2), (3, 5), (1, 2), (1, 1), (0, 1), (0, 1)]
>>> two, pair = Book([1, 2], [(0, 1, 2)]), Web([0, 1], [(0, 1, 0)])
>>> [mean(two, pair).over.numbers, second(two, pair).over.numbers, second(two, pair).power, at_least(two, pair, 2)]
[(0, 1), (-1, 0, 1, 1), 1, (8, 11)]
'''),
    ('fillings', '''
>>> [coins(even, 4), coins(two, 2), spread(even, tie, 3), chance(even, tie, 3), chance(two, pair, 2)]
[6, 8, ((0, (8, 27)), (2, (4, 9)), (4, (2, 9)), (6, (1, 27))), (19, 27), (58975, 65536)]
>>> [spread(even, Web.all_tied(3), 3), spread(Book([1, 2]), Web([0, 1]), 2), coins(Book([12]), 10)]
[((0, (26, 27)), (6, (1, 27))), ((8, (1, 1)),), 0]
>>> chance(even, tie, 6)
raises TooMany("coins", 10)
'''),
    ('surely', '''
>>> [above_from(Polynomial([-10, 0, 1])), above_from(Polynomial([10, -6, 1])), above_from(Polynomial([3])), above_from(Polynomial([5, -1])), above_from(Polynomial([]))]
[4, 3, 2, None, None]
>>> [sure_from(even, tie, (1, 2)).m, sure_from(even, tie, (9, 10)).m, rare_from(Book([1], [(0, 0, 3)]), tie, (1, 10)).parts]
[3, 19, (4, (0, 1))]
>>> sure_from(even, Web.all_tied(3), (1, 2))
raises Impossible(OnBreak((0, 1, 2)))
'''),
    ('check_moments', '''
>>> thin = Book([1], [(0, 0, 3)])
>>> [shows_from(even, tie, (1, 2), SureFrom(5)), shows_from(even, tie, (1, 2), SureFrom(2)), shows_from(thin, tie, (1, 10), RareFrom(4, [0, 1])), shows_from(thin, tie, (1, 10), RareFrom(4, (0,)))]
[True, False, True, False]
'''),
    ('named', '''
>>> book, three = Book([11], [(0, 0, 7)]), Web.all_tied(3)
>>> [beside(book, three, [0], [1]), beside(book, three, [0], [2, 1]), beside(book, three, [0, 1], [2]), beside(book, three, [], [0, 1, 2])]
[4, 1, -3, 12]
>>> [everywhere(book, three, [0]).handing, everywhere(book, three, [1, 0]).part, everywhere(book, three, [0, 1, 2]).handing]
[((0, 14), (0, 14), (7, 7)), (2,), ((0, 0), (0, 0), (0, 0))]
>>> [everywhere(book, Web.all_tied(4), [0]).part, everywhere(Book([2], [(0, 0, 1)]), three, [0, 1]).part, bare(three, [2, 0]).ties]
[(1, 2, 3), (2,), ((0, 1, 0), (1, 2, 0))]
>>> beside(book, three, [0], [1, 0])
raises Misfit('part')
'''),
    ('hulls', '''
>>> tail = Web([0, 0, 0, 0], [(0, 2, 0), (1, 2, 0), (2, 3, 0)])
>>> [hull(book, tail, [0, 1]).parts, hull(book, three, [0]).parts, hull(Book([2], [(0, 0, 1)]), three, [0, 1]).parts]
[((2,), -3, (2,)), ((), 0, ()), ((), 0, (2,))]
>>> hull(book, three, [1, 3, 1])
raises NoPoint(3)
'''),
    ('chains', '''
>>> two = Web([0, 0, 0, 0], [(0, 2, 0), (1, 2, 0), (0, 3, 0), (2, 3, 0)])
>>> [chain(book, two, [0, 1]), hull(book, two, [0, 1]).parts, chain(book, Web.all_tied(4), [3]), chain(book, three, [0])]
[((2,), (3,)), ((2, 3), -6, (2, 3)), ((0, 1, 2),), ()]
'''),
    ('check_named', '''
>>> [shows_everywhere(book, three, [0], Everywhere([(0, 14), (0, 14), (7, 7)])), shows_everywhere(book, three, [0], Everywhere([(0, 14), (0, 14), (8, 6)])), shows_everywhere(book, two, [0, 1], Seldom([2]))]
[True, False, True]
>>> [shows_everywhere(book, three, [0, 1], NamesBreak((2,))), shows_hull(book, two, [0, 1], Hull((2,), -3, (2, 3)))]
[False, False]
'''),
    ('placings', '''
>>> four, two = Book([2], [(0, 0, 1)]), Book([1], [(0, 0, 1)])
>>> tied, three = Web([0, 0], [(0, 1, 0)]), Web([0, 0, 0], [(0, 1, 0), (0, 2, 0), (1, 2, 0)])
>>> [many_placings(four, three, [0], 2), sums(four, tied, [0], 5).parts, sums(four, three, [0], 2).parts, sums(four, three, [], 2).parts]
[4, ((24, 5), (24, 5)), ((3, 4), (9, 4)), ((3, 1), (63, 2))]
>>> [lack(two, tied, [0], 2), lack(four, three, [0], 2), lack(four, three, [], 2), lack(two, three, [0], 2), lack(two, tied, [1, 0], 2), lack(two, three, [0, 1, 2], 2)]
[(1, 2), (57, 64), (41, 64), (1, 1), (0, 1), (0, 1)]
'''),
    ('tails', '''
>>> [tail((1, 2), 1), tail((24, 5), 3), tail((0, 1), 20), tail((7, 1), 0)]
[(2, 3), (125, 4469), (1, 1), (1, 1)]
>>> [lacks_at_most(four, tied, [0], 5, 3), lacks_at_most(four, three, [0], 2, 9), lacks_at_most(two, three, [0], 2, 5), lacks_at_most(two, tied, [0, 1], 2, 5)]
[(3125, 4469), (1, 1), (1, 1), (0, 1)]
>>> [terms_for(four, tied, [0], 5, (3, 4)).parts, terms_for(four, three, [0], 2, (1, 2)).parts]
[(3, (3125, 4469)), ((1, 1),)]
'''),
    ('check_tails', '''
>>> [shows_sums(four, three, [0], 2, Sums([3, 4], (9, 4))), shows_sums(four, three, [0], 2, Sums((6, 8), (9, 4))), shows_terms(four, tied, [0], 5, (3, 4), NotBelow((1, 1)))]
[True, False, False]
'''),
    ('friends', '''
>>> plain, wide = Book([11], [(0, 0, 7)]), Book([3, 2, 5], [(0, 1, 4), (0, 2, 3)])
>>> [friends(plain, 0, [0]) == Power(4), friends(plain, 0, [0, 0]).parts, friends(plain, 0, (0, 0, 0)).parts]
[True, (7, (0, 1)), (3, (0, 1, 2))]
>>> [friends(wide, 0, [0, 1]) == Most(1, (0, 1)), friends(wide, 0, [0]) == MostBreak(1, [0]), friends(wide, 0, [1]).word, friends(wide, 1, [0]).parts, friends(Book([1], [(0, 0, 3)]), 0, [0]).parts]
[True, True, 'level', (1, (0,)), (0, (0,))]
>>> [str(friends_web(wide, 0, [0, 1], 2)), str(friends_web(wide, 0, [0, 1], 0)), str(friends_web(plain, 0, [0, 0], 1))]
['1 2 0 0 : 0 2 0 / 0 3 0 / 1 2 1 / 1 3 1', '1 2 : -', '0 0 0 : 0 2 0 / 1 2 0']
>>> friends(wide, 1, [0, 1])
raises Misfit("sorts")
'''),
    ('mutual', '''
>>> [mutual(plain).parts, mutual(Book([7], [(0, 0, 7)])) == MostBreak(2, None), mutual(Book([1], [(0, 0, 3)])).parts]
[(4, None), True, (1, None)]
'''),
    ('farthest', '''
>>> [farthest(plain).number, farthest(Book([2], [(0, 0, 1)])).number, farthest(Book([3], [(0, 0, 1)])).number, bool(farthest(Book([7], [(0, 0, 7)])))]
[3, 3, 2, False]
'''),
    ('check_greatest', '''
>>> [shows_friends(plain, 0, [0, 0], Most(7, [0, 1])), shows_friends(plain, 0, [0, 0], Most(7, (0,))), shows_friends(plain, 0, [0, 0], Most(6, (0, 1))), shows_friends(wide, 0, [0, 1], MostBreak(1, (0,))), shows_friends(plain, 0, [0], Level())]
[True, False, False, False, False]
>>> [shows_mutual(plain, Most(4, None)), shows_mutual(plain, Most(4, ())), shows_mutual(plain, MostBreak(4, None)), shows_farthest(plain, Steps(3)), shows_farthest(plain, Steps(4)), shows_farthest(plain, Apart())]
[True, False, False, True, False, False]
'''),
    ('questions', '''
>>> near = Question.read("some y and tied x y not same x y")
>>> [near.free, near.looks, near.is_closed, str(near.negated()), str(near.renamed([("x", "y"), ["y", "x"]]))]
[('x',), 1, False, 'not some y and tied x y not same x y', 'some x and tied y x not same y x']
>>> [Question.read("some x all y or same x y tied x y").looks, str(Question.read("same x x").both(Question.read("tied x z"))), Question.read("some x some x tied x x").looks]
[2, 'and same x x tied x z', 2]
>>> Question.read("tied x")
raises BadText(0, 2)
>>> Question.read("some x tied x y z")
raises BadText(0, 5)
'''),
    ('towns', '''
>>> row = Town(4, [(1, 0), [1, 2]])
>>> two = "some x some y some z and tied x y and tied y z not same x z"
>>> [row.ties, holds(row, Question.read(two)), holds(row, Question.read("some x all y not tied x y")), holds(row, Question.read("all x some y tied x y")), Town(1).beside(Town(2, [(0, 1)])).ties]
[((0, 1), (1, 2)), True, True, False, ((1, 2),)]
'''),
    ('trees', '''
>>> [tree.ties for tree in trees(4)]
[(), ((0, 1),), ((0, 1), (0, 2)), ((0, 1), (0, 2), (0, 3)), ((0, 1), (0, 2), (1, 3))]
>>> [thin_town(2, 2).things, thin_town(2, 2).ties, len([tree for tree in trees(6)])]
[6, ((2, 3), (4, 5)), 14]
'''),
    ('thinside', '''
>>> thin, thinner = Book([5], [(0, 0, 7)]), Book([4], [(0, 0, 7)])
>>> [greatest_tree(thin).number, greatest_tree(thinner) == Trees(2), greatest_tree(Book([7], [(0, 0, 8)])) == TreesBreak(8)]
[3, True, True]
>>> [thin_verdict(thin, Question.read(two)), thin_verdict(thinner, Question.read(two)), thin_verdict(thin, Question.read("all x some y tied x y"))]
[True, False, False]
>>> thin_verdict(Book([2], [(0, 0, 3)]), Question.read(two))
raises Impossible(TreesBreak(3))
'''),
    ('views', '''
>>> row = Town(3, [(0, 1), (1, 2)])
>>> [views_of_town(row), views_of_town(Town(2)), views_of_town(Town(1))]
[(((0, (3,)), (1, (1,))), ((1, (2,)),)), (((0, ()),),), ((),)]
>>> [answer(views_of_town(row), Question.read("some x all y or same x y tied x y")), answer([[]], Question.read("some x some y not same x y")), are_views([[]]), are_views([]), are_views([[(0, [0, 1]), (0, [0])]])]
[True, False, True, False, False]
'''),
    ('threelooks', '''
>>> grid = Town(9, [(0, 1), (0, 2), (1, 2), (3, 4), (3, 5), (4, 5), (6, 7), (6, 8), (7, 8), (0, 3), (0, 6), (3, 6), (1, 4), (1, 7), (4, 7), (2, 5), (2, 8), (5, 8)])
>>> threes, ring = Town(6, [(0, 1), (0, 2), (1, 2), (3, 4), (3, 5), (4, 5), (0, 3), (1, 4), (2, 5)]), Town(5, [(0, 1), (1, 2), (2, 3), (3, 4), (0, 4)])
>>> [cell_of_town(grid), cell_of_town(threes.beside(threes)), cell_of_town(threes.beside(ring)), cell_of_town(threes), cell_of_town(Town(3)), cell_of_town(row)]
[0, 1, 2, None, 9, None]
>>> [cell_of(Book([11], [(0, 0, 5)])), cell_of(Book([2], [(0, 0, 1)])), cell_of(Book([3], [(0, 0, 2)])), cell_of(Book([7], [(0, 0, 8)])), cell_of(Book([11], [(0, 0, 13)])), cell_of(Book([5], [(0, 0, 7)]))]
[0, 1, 2, 3, 4, 7]
>>> [len(views_of_cell(cell)) for cell in range(10)]
[1, 1, 2, 12, 11, 9, 6, 4, 2, 1]
>>> [views_of_cell(8), views_of_cell(9)]
[(((0, (0,)), (0, (0, 1))), ((0, (0, 1, 2)), (0, (0, 2)), (1, (0,)))), (((0, (0,)),),)]
>>> common = Question.read("all x all y or same x y some z and tied x z tied y z")
>>> [verdict(Book([11], [(0, 0, 5)]), common), verdict(Book([11], [(0, 0, 7)]), common)]
[True, False]
>>> verdict(Book([4], [(0, 0, 5)]), common)
raises Impossible(DialBreak((5, 4)))
'''),
    ('questiondials', '''
>>> three = Question.read("some x some y some z and tied x y and tied y z tied x z")
>>> far = Question.read("some x all y and some z and tied x z not same y z or same x y or all z not tied y z some z and tied y z not or tied x z same x z")
>>> [question_dial(three)[2:4], question_dial(three)[9]]
[((((2, 3), (1, 1)), True), (((1, 1), (7, 6)), False)), (((2, 1), None), False)]
>>> [changes(three), changes(common), changes(far), changes(Question.read("some x some y tied x y")), parting_cells(three, common), parting_cells(far, far)]
[((1, 1),), ((1, 2),), ((7, 6),), ((2, 1),), (1, 2), ()]
'''),
    ('desk_lines', '''
>>> [read_line("glue b a a 0 10"), read_line("mutual"), str(read_line("web a 0 0 : 0 1 3")[2]), DEEDS[4:7]]
[('glue', 'b', 'a', 'a', 0, 10), ('mutual',), '0 0 : 0 1 3', ('tied', 'ring', 'way')]
>>> read_line("web a 0 0 : 1 0 3")
raises BadText(0, 5)
'''),
    ('desk_asks', '''
>>> shelf = Shelf(Book([11], [(0, 0, 7)]), [("four", Web.all_tied(4)), ("five", Web.all_tied(5))])
>>> [answer_of(shelf, line) for line in ("names", "told", "weight four", "comes five", "struck five", "heavy five", "round four 0", "hull four 0", "laid four five")]
['four five', '11 : 0 0 7', '2', 'rare', '0 1 2', '0 1 2 3 4', 'seldom', '1 2 3', '120']
>>> [answer_of(shelf, line) for line in ("dial four 0", "heavy four", "alike four five", "asked some x some y tied x y")]
['dial 22 3', '-', 'unlike', 'yes']
>>> later, answer = changed(shelf, "thin 0 8")
>>> [answer, answer_of(later, "comes four"), answer_of(later, "told"), answer_of(shelf, "told")]
['7', 'rare', '11 : 0 0 8', '11 : 0 0 7']
>>> answer_of(Shelf(), "comes four")
raises Nothing()
'''),
    ('desk', '''
>>> desk = Desk()
>>> desk.told("book 2 : 0 0 1", "way w 2", "glue x w w 0 2", "show x", "tie x 1 4 0", "strike x 0 1")
('1', '2', '5', '0 0 0 0 0 : 0 1 0 / 0 4 0 / 1 2 0 / 3 4 0', '5', '3')
>>> desk.told("size 0 3", "part y x 7")
raises BadLine(1, NoPoint(7))
>>> [desk.undo(), desk("told"), desk.redo(), len(desk), "x" in desk, desk.tried("drop x", "names"), desk("show x")]
['strike x 0 1', '2 : 0 0 1', 'strike x 0 1', 2, True, ('1', 'w'), '0 0 0 0 0 : 1 2 0 / 1 4 0 / 3 4 0']
'''),
    ('stories', '''
>>> one = replay(["way a 1", "tie a 0 1 1", "drop a"])
>>> [one == Desk(), len(one.story), one.undo(), parting(one, desk.twin()), parting(one, replay(one.story)), one("show a")]
[True, 3, 'drop a', 0, 2, '0 0 : 0 1 0 / 0 1 1']
'''),
)
