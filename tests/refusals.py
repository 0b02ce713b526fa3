"""Tests that hold for every function: bad arguments in each place, arguments by name, and new lists."""


def error_of(function, arguments):
    """Return the very class of the error that a call raises, None if it raises none."""
    try:
        function(*arguments)
    except Exception as error:
        return type(error)
    return None


def exchanged(arguments, place, thing):
    """Return the arguments with the one at the place exchanged."""
    return arguments[:place] + (thing,) + arguments[place + 1:]


class Refusals:
    """Tests of one function.

    A class below sets `function` to a list with the function, `goods` to good tuples of arguments, and defines
    `wrongs(good)`: for each parameter in order its name, the error and the wrong objects in its place.
    """

    def test_one_wrong_argument_raises_its_error(self):
        function, = self.function
        for good in self.goods:
            before = function(*good)
            for place, (name, error, things) in enumerate(self.wrongs(good)):
                for thing in things:
                    self.assertIs(error_of(function, exchanged(good, place, thing)), error, (name, type(thing)))
                self.assertEqual(function(*good), before)

    def test_the_first_of_two_wrong_arguments_decides(self):
        function, = self.function
        for good in self.goods:
            wrongs = self.wrongs(good)
            for late, (_, _, later) in enumerate(wrongs):
                for early in range(late):
                    _, error, things = wrongs[early]
                    for thing in things:
                        for other in later[::7]:
                            bad = exchanged(exchanged(good, early, thing), late, other)
                            self.assertIs(error_of(function, bad), error)

    def test_all_arguments_wrong_raise_the_first_error(self):
        function, = self.function
        for good in self.goods:
            wrongs = self.wrongs(good)
            self.assertIs(error_of(function, tuple(things[0] for _, _, things in wrongs)), wrongs[0][1])

    def test_arguments_by_name(self):
        function, = self.function
        for good in self.goods:
            names = [name for name, _, _ in self.wrongs(good)]
            self.assertEqual(len(names), len(good))
            self.assertEqual(function(**dict(zip(names, good))), function(*good))
            backwards = dict(reversed(list(zip(names, good))))
            self.assertEqual(function(**backwards), function(*good))

    def test_a_list_that_is_returned_is_new(self):
        function, = self.function
        for good in self.goods:
            first = function(*good)
            if isinstance(first, list):
                kept = list(first)
                self.assertIsNot(function(*good), first)
                first.clear()
                first.append("changed")
                self.assertEqual(function(*good), kept)
