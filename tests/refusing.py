"""Points 7 and 8: wrong arguments to try, and the tests that each function refuses them, the first one first."""

from copy import deepcopy

from kepttogether.errors import BadValue, TogetherError

SYSTEM = (4, ((0, 1), (1, 2)))
ROW = (3, 0, 1, 2)
SIDES = ((0, 0, -1, 1), (1, 0, 0, 1))

NO_TUPLES = [None, True, False, 0, 4, -1, "", "0123", []]
WRONG_SYSTEMS = NO_TUPLES + [
    (), (4,), (4, (), ()), [4, ()], (4, []), (4, None), (4, 0), ((), 4), (0, ()), (-1, ()), (9, ()), (10 ** 30, ()),
    (9, ((0, 8),)), (True, ()), (True, ((0,),)), (False, ()), (None, ()), ("4", ()), ((4,), ()),
    (4, ((),) * 9), (4, ((0, 1),) * 9), (4, ([0, 1],)), (4, [(0, 1)]), (4, (0, 1)), (4, ((1, 0),)), (4, ((0, 0),)),
    (4, ((0, 4),)), (4, ((-1, 0),)), (4, ((False, 1),)), (4, ((0, True),)), (4, (("0", "1"),)), (4, ("01",)),
    (4, (None,)), (4, ((0, 1), (1, 2), (3, 2))), (4, ((0, (1,)),)), (4, ((0, 1, 2, 3, 3),)), (1, ((1,),)),
]
WRONG_ROWS_OF_4 = NO_TUPLES + [
    (), (0,), (0, 1, 2), (0, 1, 2, 3, 4), (0, 1, 2, 3, 3), (0, 1, 2, 2), (0, 1, 2, 4), (1, 2, 3, 4), (-1, 0, 1, 2),
    [0, 1, 2, 3], (False, True, 2, 3), (0, True, 2, 3), (False, 1, 2, 3), ("0", 1, 2, 3), (None, 1, 2, 3),
    (0, 1, 2, (3,)), (0, 1, 2, [3]), tuple(range(9)),
]
WRONG_ROWS = NO_TUPLES + [
    (), tuple(range(9)), (1,), (-1,), (0, 0), (1, 2), (0, 2), [0], [0, 1], (False,), (True, 0), (0, True), ("0",),
    (0, None), ((0,),), (0, [1]),
]
WRONG_SETS = NO_TUPLES + [
    (8,), (0, 8), (-1,), (-1, 0), (0, 0), (1, 0), (0, 2, 1), (False,), (True,), (0, True), (False, 1), ("0",), (None,),
    ((0,),), [0], [0, 1], tuple(range(9)), (0, 1, 10 ** 30),
]
WRONG_MEMBERS_OF_4 = NO_TUPLES + [
    (), (4,), (0, 4), (-1, 0), (0, 0), (1, 0), (False,), (False, 1), (0, True), ("0",), (0, None), ((0,),), [0], [0, 1],
    (0, 1, 2, 3, 4), (0, 1, 1, 2),
]
WRONG_SIDES = NO_TUPLES + [
    (), SIDES[:1], SIDES + SIDES[:1], list(SIDES), (list(SIDES[0]), SIDES[1]), (SIDES[0], None), (SIDES[0], 0),
    (SIDES[0], (1, 0, 0)), (SIDES[0], (1, 0, 0, 1, 0)), (SIDES[0], (0, 0, 0, 1)), (SIDES[0], (1, 1, 0, 1)),
    (SIDES[0], (1, 0, -1, 1)), (SIDES[0], (2, 0, 0, 1)), (SIDES[0], (-2, 0, 0, 1)), (SIDES[0], (True, 0, 0, 1)),
    (SIDES[0], (1, False, 0, 1)), (SIDES[0], ("1", 0, 0, 1)), (SIDES[0], (None, 0, 0, 1)), (SIDES[0], ((1,), 0, 0, 1)),
    SIDES[::-1], (SIDES[0], SIDES[0]), ((0, 0, 0, 0), (0, 0, 0, 0)), SIDES[0],
]
PAIR = (0, 3)
WRONG_PAIRS_OF_4 = NO_TUPLES + [
    (), (0,), (0, 1, 2), (0, 0), (0, 4), (4, 0), (-1, 0), (0, -1), [0, 1], (True, 0), (0, True), (False, 1), (0, "1"),
    ("0", "1"), (0, None), (0, (1,)), ((0, 1),), ((0, 1), (1, 2)), (0, [1]), (0, 10 ** 30),
]
CHAIN = ((0, 2), ((1, (0, 1)), (0, (3, 1))))
STEPS = CHAIN[1]
WRONG_CHAINS = NO_TUPLES + [
    (), (0, 2), CHAIN[:1], CHAIN + ((),), list(CHAIN), (list(CHAIN[0]), STEPS), (CHAIN[0], list(STEPS)),
    (CHAIN[0], None), (CHAIN[0], 0), ((0, 0), ()), ((0, 4), ()), ((-1, 0), ()), ((0, True), ()), ((0,), ()),
    ((0, 1, 2), ()), (("0", "1"), ()), ((), ()), (CHAIN[0], STEPS[0]), (CHAIN[0], (STEPS,)),
    (CHAIN[0], ((2, (0, 1)),)), (CHAIN[0], ((-1, (0, 1)),)), (CHAIN[0], ((True, (0, 1)),)),
    (CHAIN[0], (("1", (0, 1)),)), (CHAIN[0], ((None, (0, 1)),)), (CHAIN[0], ((1, (0, 4)),)),
    (CHAIN[0], ((1, (1, 1)),)), (CHAIN[0], ((1, [0, 1]),)),
    (CHAIN[0], ((1, (0, True)),)), (CHAIN[0], ([1, (0, 1)],)), (CHAIN[0], ((1, 0, 1),)), (CHAIN[0], ((1,),)),
    (CHAIN[0], ((1, (0, 1), 0),)), (CHAIN[0], STEPS + (None,)), (CHAIN[0], STEPS[:1] * 101), STEPS, (STEPS, CHAIN[0]),
]
WRONG_TEXTS = [
    None, True, False, 0, 7, (), ("1",), [], ["1"], " " * 1001, "1" * 1001, "a" * 1001, "\n", "1\n", "1 \n 2", "a\n",
    " " * 1001 + "\n", b"1", 10 ** 30,
]
NOT_KEEPING = [(0, 2, 1, 3), (1, 3, 2, 0), (0, 2, 3, 1)]

THE_SYSTEM = ("system", SYSTEM, WRONG_SYSTEMS)
A_PAIR = ("pair", PAIR, WRONG_PAIRS_OF_4)
ANOTHER_PAIR = ("other", (3, 0), WRONG_PAIRS_OF_4)
A_ROW_OF_4 = ("row", ROW, WRONG_ROWS_OF_4)
A_ROW = ("row", ROW, WRONG_ROWS)
THE_SIDES = ("sides", SIDES, WRONG_SIDES)
A_CHAIN = ("chain", CHAIN, WRONG_CHAINS)
ANY_VALUE = ("value", None, [])


class RefusalChecks:
    """Tests of all calls that are told in `functions`; a test case below says which these are."""

    functions = []

    def check_refused(self, function, given, name):
        before = deepcopy(given)
        for call in (lambda: function(*given), lambda: function(**self.by_name(function, given))):
            with self.assertRaises(BadValue, msg=(function.__name__, given)) as caught:
                call()
            self.assertEqual(caught.exception.name, name, (function.__name__, given))
            self.assertIs(type(caught.exception.name), str)
            self.assertIsInstance(caught.exception, TogetherError)
            self.assertIsInstance(caught.exception, ValueError)
        self.assertEqual(repr(given), repr(before))

    def by_name(self, function, given):
        names = [name for tried, *parameters in self.functions if tried == function for name, _, _ in parameters]
        return dict(zip(names, given))

    def test_right_arguments_are_not_refused(self):
        for function, *parameters in self.functions:
            given = [good for _, good, _ in parameters]
            self.assertEqual(function(*given), function(**self.by_name(function, given)))

    def test_a_wrong_argument_alone(self):
        for function, *parameters in self.functions:
            for at, (name, _, wrong) in enumerate(parameters):
                for value in wrong:
                    given = [good for _, good, _ in parameters]
                    given[at] = value
                    self.check_refused(function, given, name)

    def test_a_wrong_argument_with_wrong_ones_behind_it(self):
        for function, *parameters in self.functions:
            for at, (name, _, wrong) in enumerate(parameters):
                for behind in range(at + 1, len(parameters)):
                    for value in wrong:
                        for other in parameters[behind][2][::3] + [None]:
                            given = [good for _, good, _ in parameters]
                            given[at], given[behind] = value, other
                            self.check_refused(function, given, name)

    def test_all_arguments_wrong(self):
        for function, *parameters in self.functions:
            refused = [name for name, _, wrong in parameters if wrong]
            for value in (None, [], True, -1, "\n", ((),)):
                self.check_refused(function, [value for _ in parameters], refused[0])
