"""The whole example of section 1.

    >>> from wholeflow.sound import unsound, finish
    >>> from wholeflow.houses import House, rebuild
    >>> write = ("write", ("task", "pens", 2, 10, "bin"), (0,), (2,))
    >>> check = ("check", ("choice",), (2,), (1,))
    >>> again = ("again", ("choice",), (2,), (0,))
    >>> net = (3, (write, check, again))
    >>> unsound(net), finish(net, (0,))
    (None, ('write', 'check'))
    >>> house = House()
    >>> house.publish("root", "letter", net), house.start("root", "letter", 1)
    (1, 1)
    >>> house.grant("root", "ann", "work", "letter")
    >>> house.claim("ann", "pens")
    (1, 1)
    >>> house.done("ann", 1, 1)
    >>> house.choose("root", 1, "check")
    >>> house.instance(1)
    ('letter', 1, 'root', 1, 'ended', (1,), ('write', 'check'), ())
    >>> rebuild(house.log()) == house
    True
"""

import doctest
import sys
import unittest


class ExampleTest(unittest.TestCase):

    def test_example(self):
        told = doctest.testmod(sys.modules[__name__])
        self.assertEqual((told.attempted, told.failed), (15, 0))


if __name__ == "__main__":
    unittest.main()
