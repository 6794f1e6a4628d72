"""Point 3: the tests that a function which takes every value answers True or False, as the words say."""

from support import spoiled, values_of_all_kinds


class JudgeChecks:
    def check(self, told, expected, value):
        """Compare both answers for the value, and look that the value stays as it is."""
        before = repr(value)
        answer = told(value)
        self.assertIs(type(answer), bool, before)
        self.assertIs(answer, expected(value), before)
        self.assertEqual(repr(value), before)

    def check_all(self, told, expected, good):
        for value in values_of_all_kinds():
            self.check(told, expected, value)
        for one in good:
            self.assertIs(told(one), True, one)
            for value in spoiled(one):
                self.check(told, expected, value)
