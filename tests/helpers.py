"""What several tests need: the rows of the document, checks of errors, lists of wrong values."""

from underthree.errors import InvalidPaper, InvalidText, NotUsable, OutOfOrder

PAIR = ((0, 3), (1, 4))
FORK = ((0, 2), (1, 3), (1, 4), (1, 6), (3, 7))
FAN5 = (5, ((1, 4), (2, 4)))
HEX = (6, ((0, 2), (0, 4), (2, 4)))
PLAN3 = (4, ((1, 2), (0, 4), (4, 3)), (5, 6))
LAP = (3, ((0, 1), (1, 2), (3, 4)), (5,))
HUGE = 10 ** 30
SIXTY = 10 ** 59 + 7

OPERATIONS = (
    ("sum", 1), ("sum", 2), ("sum", 7), ("sum", 10 ** 12),
    ("product", 1), ("product", 2), ("product", 3), ("product", 6),
    ("most",), ("least",), ("first",), ("last",), ("or",),
    ("maps", 1), ("maps", 2), ("maps", 3), ("maps", 8),
    ("grids", 1, 1), ("grids", 1, 2), ("grids", 1, 3), ("grids", 2, 1), ("grids", 2, 2), ("grids", 3, 5),
    ("brackets",), ("spans",), ("counts", 1), ("counts", 2), ("counts", 3),
)

NOT_INTEGERS = (None, True, False, "1", "", (), (1,), [], [1])
NOT_NUMBERS = NOT_INTEGERS + (-1, -HUGE)
NOT_POSITIVE = NOT_NUMBERS + (0,)
NOT_TUPLES = (None, True, 0, 1, "", "ab", [], [(0, 1)])
NOT_TEXT = (None, True, 0, 7, (), ("a",), [], ["sum 3"])
NOT_STRETCHES = NOT_TUPLES + (
    (), (0,), (0, 1, 2), (1, 1), (2, 1), (-1, 2), (True, 2), (0, True), (False, 1), (0, "1"), (None, 1),
    (0, (1,)), ([0], 1), [0, 1],
)
NOT_LOTS = NOT_TUPLES + ((0, 0), (1, 0), (-1,), (True,), (False, 1), (0, True), ("a",), ((0,),), (None,), (0, [1]))
NOT_ASKS = NOT_TUPLES + (
    (0, 1), ((0, 1), (0, 1)), ((1, 2), (0, 1)), ((0, 2), (0, 1)), ((0, 0),), ((1, 0),), ((-1, 1),),
    ((0, True),), ((False, 1),), ((0, 1, 2),), ([0, 1],), ((0, 1), None), ((0, 1), (1, 2), "x"), [(0, 1)],
)
# Rows that no queue has, each with the two asks that are told.
CROSSED = (
    (((0, 9), (1, 2)), (0, 9), (1, 2)),
    (((0, 4), (1, 2), (1, 3)), (0, 4), (1, 2)),
    (((0, 3), (1, 3), (3, 9), (4, 8)), (3, 9), (4, 8)),
    (((0, 2), (0, 5), (1, 6), (2, 4), (3, 4)), (0, 5), (2, 4)),
    (((0, 1), (2, 8), (3, 8), (4, 7), (5, 6)), (2, 8), (4, 7)),
    (((1, 5), (2, 9), (3, 8), (4, 5), (4, 7)), (2, 9), (3, 8)),
)
NOT_OPERATIONS = NOT_TUPLES + (
    (), ("sum",), ("sum", 0), ("sum", -1), ("sum", True), ("sum", "3"), ("sum", 3, 3), ("sum", None), ("sum", (3,)),
    ("product",), ("product", 0), ("most", 1), ("least", 1), ("first", 1), ("last", 1), ("or", 1), ("brackets", 2),
    ("spans", 1), ("counts",), ("counts", 0), ("counts", 1, 1), ("maps",), ("maps", 0), ("maps", 2, 2), ("grids", 2),
    ("grids", 0, 2), ("grids", 2, 0), ("grids", True, 2), ("grids", 2, True), ("grids", 2, 2, 2), ("Sum", 3), ("", 1),
    ("spans ",), (["sum"], 3), (None,), (True,), (("sum", 3),), ["sum", 3], ["most"], "most",
)
NOT_PLANS = NOT_TUPLES + (
    (), (2, ()), (2, (), (), ()), [2, (), ()], (0, (), ()), (True, (), ()), (-1, (), ()), ("2", (), ()), (None, (), ()),
    (2, [], ()), (2, None, ()), (2, (), []), (2, (), None), (2, ((0, 2),), ()), (2, ((0,),), ()), (2, ((0, 1, 1),), ()),
    (2, ([0, 1],), ()), (2, ((0, True),), ()), (2, ((False, 1),), ()), (2, ((0, -1),), ()), (2, (0, 1), ()),
    (2, ((0, 1), (4, 0)), ()), (2, ((0, 1),), (3,)), (2, (), (2,)), (2, (), (True,)), (2, (), (-1,)), (2, (), ((0,),)),
    (2, (), "0"), ((2,), (), ()),
)
NOT_CUTS = NOT_TUPLES + (
    (0, 1, 2), ((),), ((0, 1),), ((0, 1, 2, 3),), ([0, 1, 2],), [(0, 1, 2)], ((0, 1, 1),), ((0, 0, 1),), ((1, 0, 2),),
    ((0, 2, 1),), ((2, 1, 0),), ((-1, 0, 1),), ((False, 1, 2),), ((0, True, 2),), ((0, 1, "2"),), ((0, 1, None),), ((0, (1,), 2),),
    ((0, 1, 2), (0, 1, 2)), ((1, 2, 3), (0, 1, 2)), ((0, 1, 3),), ((0, 2, 3),), ((0, 1, 2), (0, 1, 3)), ((0, 1, 2), None),
    ((0, 1, 2), (0, 2, 3), (1, 2, 3)), ((0, 1, 2), (1, 2, 3), (0, 2, 4)), (("0", 1, 2),), ((0, 1, 2), (0, 2, 3), (0, 2, 3)),
)
NOT_CUTTINGS = NOT_TUPLES + (
    (), (3,), (3, (), ()), [3, ()], (1, ()), (0, ()), (-1, ()), (True, ()), ("3", ()), (None, ()), ((3,), ()), (3, []), (3, None),
    (3, 0), (2, ((0, 1),)), (3, ((0, 1),)), (3, ((0, 2),)), (4, ()), (4, ((0, 1),)), (4, ((0, 3),)), (4, ((2, 0),)), (4, ((0, 0),)),
    (4, ((0, 4),)), (4, ((2, 4),)), (4, ((-1, 1),)), (4, ((False, 2),)), (4, ((True, 3),)), (4, ([0, 2],)), (4, (0, 2)),
    (4, ((0, 2, 3),)), (4, ((0, "2"),)), (4, [(0, 2)]), (4, ((0, 2), (0, 2))), (4, ((0, 2), (1, 3))), (5, ((0, 2), (1, 3))),
    (5, ((2, 4), (0, 2))), (5, ((0, 2),)), (5, ((0, 2), None)), (6, ((0, 2), (0, 3), (1, 4))), (6, ((0, 3), (0, 4))),
)
NOT_CORNERS = NOT_POSITIVE + (1,)
NOT_PROGRAMS = NOT_TUPLES + (
    (), (2,), (2, (((), 0),), ()), [2, (((), 0),)], (0, (((), None),)), (-1, (((), None),)), (True, (((), 0),)), ("2", (((), 0),)),
    (None, (((), 0),)), ((2,), (((), 0),)), (2, ()), (2, [((), 0)]), (2, None), (2, "ab"), (2, 7), (2, ((), 0)), (2, (((),),)),
    (2, (((), 0, 0),)), (2, ([(), 0],)), (2, (([], 0),)), (2, ((None, 0),)), (2, (((), 0), None)), (2, ((((0, 1),), 0),)),
    (2, ((((1, 2),), 0),)), (2, ((((2, 0),), 0),)), (2, ((((1,),), 0),)), (2, ((((1, 0, 0, 0),), 0),)), (2, ((([1, 0],), 0),)),
    (2, ((((1, True),), 0),)), (2, ((((True, 0),), 0),)), (2, ((((1, False, 0),), 0),)), (2, ((((1, 0, -1),), 0),)),
    (2, ((((1, 0, 2),), 0),)), (2, ((((1, "0"),), 0),)), (2, (((1, 0), 0),)), (2, ((((1, 0), None), 0),)), (1, ((((1, 0),), 0),)),
    (2, (((), 2),)), (2, (((), -1),)), (2, (((), True),)), (2, (((), False),)), (2, (((), "0"),)), (2, (((), (0,)),)), (2, (((), ()),)),
)
NOT_STANDS = NOT_TUPLES + (
    (), ((),), ((), (), ()), [(), ()], ([], ()), ((), []), ((0, 0), ()), ((1, 0), ()), ((-1,), ()), ((True,), ()),
    ((0, 1, 2), ((0, 1),)), ((0, 2), ((0, 2),)), ((0, 1, 3), ((0, 2),)), ((1, 2, 3), ((0, 3),)), ((0, 1, 2), ((0, True),)),
    ((0, 1, 2), ((False, 2),)), ((0, 1, 2), ((0, 2), (0, 2))), ((0, 1, 2, 3), ((1, 3), (0, 2))), ((0, 1, 2), ((2, 0),)),
    ((0, 1, 2), ([0, 2],)), ((0, 1, 2), (0, 2)), ((0, 1, 2), ((0, 1, 2),)), ((0, 1, 2), (None,)), (0, ()), ((), 0),
)
NOT_STRIKES = NOT_TUPLES + (
    (), ("element",), ("element", -1), ("element", True), ("element", "1"), ("element", 1, 2), ("element", (1,)),
    ("ask",), ("ask", 1), ("ask", 2, 2), ("ask", 3, 2), ("ask", -1, 2), ("ask", True, 2), ("ask", 0, True),
    ("ask", 0, 2, 3), ("ask", (0, 2)), ("Ask", 0, 2), ("", 0, 2), (None, 0, 2), (["ask"], 0, 2),
    ("Element", 1), ("", 1), (["element"], 1), (None, 1), (1, 2), "element",
)


def told(error):
    """The fields of an error, by name."""
    return vars(error)


def check_error(case, kind, fields, function, /, *values, **named):
    """The call raises exactly this error with exactly these fields, True no 1."""
    with case.assertRaises(kind, msg=(function, values, named)) as caught:
        function(*values, **named)
    error = caught.exception
    case.assertIs(type(error), kind, msg=(function, values, named))
    case.assertEqual(told(error), fields, msg=(function, values, named))
    for word, field in fields.items():
        case.assertIs(type(told(error)[word]), type(field))


def check_unusable(case, word, at, function, /, *values, **named):
    check_error(case, NotUsable, {"word": word, "at": at}, function, *values, **named)


def check_paper(case, word, at, function, *values):
    check_error(case, InvalidPaper, {"word": word, "at": at}, function, *values)


def check_text(case, field, function, *values):
    check_error(case, InvalidText, {"line": 0, "field": field}, function, *values)


def check_parameters(case, function, good, bad):
    """
    good: values that work, by name, in the order of the parameters.
    bad: for each name the values that are not as stated, all other ones being good.
    Each is tried alone, by place and by name, and with all later parameters wrong, too.
    """
    function(*good.values())
    function(**good)
    names = list(good)
    case.assertEqual(set(names), set(bad))
    for at, name in enumerate(names):
        for value in bad[name]:
            alone = dict(good)
            alone[name] = value
            check_unusable(case, name, -1, function, *alone.values())
            check_unusable(case, name, -1, function, **alone)
            if at + 1 < len(names):
                together = dict(alone)
                for later in names[at + 1:]:
                    # A thing that is only looked at has no wrong values.
                    together[later] = bad[later][0] if bad[later] else None
                check_unusable(case, name, -1, function, *together.values())


def check_crossed(case, function, good, bad):
    """
    Rows that no queue has as the parameter queue, the other ones being good.
    Each is tried alone, with all later parameters wrong, and behind an earlier one that is wrong.
    """
    names = list(good)
    place = names.index("queue")
    for row, one, other in CROSSED:
        alone = dict(good, queue=row)
        fields = {"one": one, "other": other}
        check_error(case, OutOfOrder, fields, function, *alone.values())
        check_error(case, OutOfOrder, fields, function, **alone)
        together = dict(alone)
        for later in names[place + 1:]:
            together[later] = bad[later][0]
        check_error(case, OutOfOrder, fields, function, *together.values())
        for earlier in names[:place]:
            check_unusable(case, earlier, -1, function, *dict(alone, **{earlier: bad[earlier][0]}).values())


def check_queue_parameters(case, function, good, bad):
    """check_parameters and check_crossed, for a function with a parameter queue among others."""
    bad = dict({"queue": NOT_ASKS}, **bad)
    check_parameters(case, function, good, bad)
    check_crossed(case, function, good, bad)


def same_kind(one, other):
    """Equal, and of the same kinds all through, so that True is not 1 and a list no tuple."""
    if type(one) is not type(other):
        return False
    if isinstance(one, (tuple, list)):
        return len(one) == len(other) and all(same_kind(a, b) for a, b in zip(one, other))
    return one == other


def check_same(case, got, due):
    case.assertTrue(same_kind(got, due), msg=f"{got!r} is not {due!r}")


def small_rows(end, most, stretches=None):
    """All rows of at most so many asks that end at most at end."""
    from itertools import combinations
    if stretches is None:
        stretches = [(low, high) for low in range(end) for high in range(low + 1, end + 1)]
    return [tuple(sorted(row)) for many in range(most + 1) for row in combinations(stretches, many)]


def heads_of(lines):
    """The lines, and the tuples of parts with which one of them begins."""
    heads = set()
    for line in lines:
        parts = line.split(" ")
        heads.update(tuple(parts[:many]) for many in range(1, len(parts) + 1))
    return (set(lines), heads)


def check_all_texts(case, lines, tokens, most, read, write):
    """
    All texts of at most so many of the tokens are read by the words of [17].
    lines: at least each line that is no longer than a text and its shortest continuation.
    """
    from itertools import product
    whole, heads = heads_of(lines)
    for many in range(1, most + 1):
        for parts in product(tokens, repeat=many):
            text = " ".join(parts)
            parts = text.split(" ")
            if text in whole:
                case.assertEqual(write(read(text)), text)
                continue
            fields = [at for at in range(len(parts)) if tuple(parts[:at + 1]) not in heads]
            check_text(case, fields[0] if fields else len(parts), read, text)
