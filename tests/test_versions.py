"""Point 4 and the interface of peershelf.versions."""

import doctest
import unittest

from peershelf.errors import BadRange, BadVersion
from peershelf.versions import is_range, is_version, satisfies
from tests.support import CheckedCase, no_texts

EXAMPLES = '''
>>> from peershelf.versions import is_range, satisfies
>>> satisfies("1.4.0", "^1.2.3"), satisfies("0.3.0", "^0.2.9 || ~0.3.0"), satisfies("2.0.0", ">=1.0.0 <2.0.0")
(True, True, False)
>>> is_range("*||*"), is_range("01.0.0"), is_range("1.0.0 || * || ~0.0.999")
(False, False, True)
'''

VERSIONS = ("0.0.0", "0.0.1", "1.2.3", "999.999.999", "0.999.0", "10.20.30", "100.0.9", "999.0.0", "0.0.999")

NO_VERSIONS = (
    "", ".", "..", "...", "1", "1.0", "1.0.", ".0.0", "1..0", "1.0.0.", ".1.0.0", "1.0.0.0",
    "1000.0.0", "0.1000.0", "0.0.1000", "0.0.9999", "1.0.99999999999999999999",
    "01.0.0", "1.00.0", "1.0.01", "1.0.000", "00.0.0", "001.0.0", "0001.0.0",
    "-1.0.0", "+1.0.0", "1.-0.0", "1.0.-1", "1.0.+1", "--1.0.0",
    " 1.0.0", "1.0.0 ", "1. 0.0", "1 .0.0", "1.0.0\n", "\n1.0.0", "\t1.0.0", "1.0.0\x00",
    "1,0,0", "1.0,0", "1_0.0.0", "1.0_0.0", "a.b.c", "1.0.x", "v1.0.0", "=1.0.0", "1.0.0-1", "1.0.0+1", "0x1.0.0",
    "1e1.0.0", "\uff11.0.0", "\u0661.0.0", "1.0.\u00b2", "1.0.\u2460", "*", "^1.0.0", "1" * 5000 + ".0.0", "1." * 5000,
)

NO_ALTERNATIVES = (
    "", " ", "**", "x", "^", "~", ">=", "<", "=", "^*", "~*", ">=*", "^^1.0.0", "~~1.0.0", "^~1.0.0", "~^1.0.0",
    "=1.0.0", "==1.0.0", ">1.0.0", "<1.0.0", "<=1.0.0", ">=1.0.0", "!1.0.0", "1", "1.0", "^1", "^1.0",
    "~1", "~1.0", "1.x.0", "1.*", "01.0.0", "^01.0.0", "~1.00.0", "1000.0.0", "^1000.0.0", "~0.0.1000",
    "^-1.0.0", "~+1.0.0", " *", "* ", " 1.0.0", "1.0.0 ", "^ 1.0.0", "~ 1.0.0", "^1.0.0 ", " ^1.0.0",
    "*\n", "1.0.0\n", "^1.0.0\n",
    ">=1.0.0 <1.0.0", ">=2.0.0 <1.0.0", ">=1.0.10 <1.0.9", ">=10.0.0 <9.0.0", ">=0.0.0 <0.0.0",
    ">=1.0.0  <2.0.0", ">=1.0.0<2.0.0", ">= 1.0.0 <2.0.0", ">=1.0.0 < 2.0.0", ">=1.0.0\t<2.0.0", " >=1.0.0 <2.0.0",
    ">=1.0.0 <2.0.0 ", ">=1.0.0 <=2.0.0", ">1.0.0 <2.0.0", ">=1.0.0 <", ">= <2.0.0", ">=1.0.0 2.0.0", ">=1.0.0 >2.0.0",
    ">=1.0.0 <2.0.0 <3.0.0", "<2.0.0 >=1.0.0", ">=01.0.0 <2.0.0", ">=1.0.0 <2.0", ">=1.0.0 <1000.0.0", ">=* <2.0.0",
    ">>1.0.0 <2.0.0", ">11.0.0 <12.0.0", "> 1.0.0 <2.0.0", "~=1.0.0 <2.0.0", ">=1.0.0 <*",
    ">=^1.0.0 <2.0.0", ">=1.0.0 <~2.0.0", "1.0.0 2.0.0", "1.0.0 - 2.0.0", "1.0.0,2.0.0",
)

ALTERNATIVES = (
    "*", "0.0.0", "1.2.3", "999.999.999", "^0.0.0", "^0.0.999", "^0.999.1", "^999.999.999", "~0.0.0", "~0.999.999",
    "~999.999.999", ">=0.0.0 <0.0.1", ">=1.0.0 <2.0.0", ">=9.0.0 <10.0.0", ">=1.0.9 <1.0.10", ">=0.0.0 <999.999.999",
)

# Each range with the versions that are its edges: those just inside, and those just outside.
EDGES = (
    ("*", ("0.0.0", "1.2.3", "0.999.999", "999.999.999"), ()),
    ("1.2.3", ("1.2.3",), ("1.2.2", "1.2.4", "1.1.3", "1.3.3", "0.2.3", "2.2.3", "0.999.999", "1.3.0")),
    ("0.0.0", ("0.0.0",), ("0.0.1", "0.1.0", "1.0.0")),
    ("999.999.999", ("999.999.999",), ("999.999.998", "999.998.999", "998.999.999")),
    ("^1.2.3", ("1.2.3", "1.2.4", "1.3.0", "1.10.0", "1.999.999"), ("1.2.2", "1.1.999", "0.999.999", "2.0.0", "2.2.3")),
    ("^1.0.0", ("1.0.0", "1.0.1", "1.999.999"), ("0.999.999", "2.0.0")),
    ("^9.0.0", ("9.0.0", "9.999.999"), ("8.999.999", "10.0.0", "90.0.0")),
    ("^999.0.0", ("999.0.0", "999.999.999"), ("998.999.999",)),
    ("^999.999.999", ("999.999.999",), ("999.999.998",)),
    ("^0.2.3", ("0.2.3", "0.2.4", "0.2.10", "0.2.999"), ("0.2.2", "0.1.999", "0.3.0", "0.3.3", "1.0.0", "1.2.3")),
    ("^0.1.0", ("0.1.0", "0.1.999"), ("0.0.999", "0.2.0", "1.1.0")),
    ("^0.999.0", ("0.999.0", "0.999.999"), ("0.998.999", "1.0.0")),
    ("^0.0.3", ("0.0.3",), ("0.0.2", "0.0.4", "0.1.0", "0.1.3", "1.0.0", "1.0.3")),
    ("^0.0.0", ("0.0.0",), ("0.0.1", "0.1.0", "1.0.0")),
    ("^0.0.999", ("0.0.999",), ("0.0.998", "0.1.0")),
    ("~1.2.3", ("1.2.3", "1.2.4", "1.2.10", "1.2.999"), ("1.2.2", "1.1.999", "1.3.0", "1.3.3", "2.0.0", "2.2.3")),
    ("~1.9.0", ("1.9.0", "1.9.999"), ("1.8.999", "1.10.0")),
    ("~1.999.3", ("1.999.3", "1.999.999"), ("1.999.2", "2.0.0")),
    ("~999.999.3", ("999.999.3", "999.999.999"), ("999.999.2",)),
    ("~0.0.3", ("0.0.3", "0.0.4", "0.0.999"), ("0.0.2", "0.1.0", "1.0.0")),
    ("~0.2.3", ("0.2.3", "0.2.999"), ("0.2.2", "0.3.0", "1.2.3")),
    (">=1.0.0 <2.0.0", ("1.0.0", "1.0.1", "1.999.999"), ("0.999.999", "2.0.0", "2.0.1")),
    (">=1.2.3 <1.2.4", ("1.2.3",), ("1.2.2", "1.2.4")),
    (">=9.0.0 <10.0.0", ("9.0.0", "9.999.999"), ("8.999.999", "10.0.0")),
    (">=0.0.0 <999.999.999", ("0.0.0", "999.999.998"), ("999.999.999",)),
)


class Examples(unittest.TestCase):
    def test_the_examples_of_the_interface(self):
        examples = doctest.DocTestParser().get_doctest(EXAMPLES, {}, "versions", None, 0)
        result = doctest.DocTestRunner().run(examples)
        self.assertEqual((result.failed, result.attempted), (0, 3))


class Versions(unittest.TestCase):
    def test_versions(self):
        for text in VERSIONS:
            with self.subTest(text):
                self.assertIs(is_version(text), True)

    def test_texts_that_are_none(self):
        for text in NO_VERSIONS:
            with self.subTest(text[:20]):
                self.assertIs(is_version(text), False)

    def test_every_number_up_to_the_limit_and_beyond(self):
        for number in list(range(1002)) + [9999, 10000]:
            for text in (f"{number}.0.0", f"0.{number}.0", f"0.0.{number}"):
                self.assertIs(is_version(text), number <= 999, text)

    def test_values_that_are_no_texts(self):
        for value in no_texts() + [("1.0.0",), (1, 0, 0), ()]:
            self.assertIs(is_version(value), False)


class Ranges(unittest.TestCase):
    def test_one_alternative(self):
        for text in ALTERNATIVES:
            with self.subTest(text):
                self.assertIs(is_range(text), True)

    def test_texts_that_are_none(self):
        for text in NO_ALTERNATIVES:
            with self.subTest(text):
                self.assertIs(is_range(text), False)

    def test_versions_are_ranges_and_what_is_none_is_no_range(self):
        for text in VERSIONS:
            for mark in ("", "^", "~"):
                self.assertIs(is_range(mark + text), True, mark + text)
        for text in NO_VERSIONS:
            if text not in ("*", "^1.0.0"):
                for mark in ("", "^", "~"):
                    self.assertIs(is_range(mark + text), False, mark + text[:20])
                self.assertIs(is_range(">=" + text + " <999.0.0"), False, text[:20])
                self.assertIs(is_range(">=0.0.0 <" + text), False, text[:20])

    def test_two_and_three_alternatives(self):
        for first in ALTERNATIVES:
            for second in ALTERNATIVES:
                self.assertIs(is_range(first + " || " + second), True, (first, second))
                self.assertIs(is_range(first + " || " + second + " || " + first), True, (first, second))

    def test_four_alternatives_are_too_many(self):
        self.assertIs(is_range("* || * || *"), True)
        for text in ("* || * || * || *", "1.0.0 || 2.0.0 || 3.0.0 || 4.0.0", " || ".join(["*"] * 5)):
            self.assertIs(is_range(text), False, text)

    def test_every_alternative_must_be_one(self):
        for text in NO_ALTERNATIVES:
            for joined in ("* || " + text, text + " || *", "* || " + text + " || *", "* || * || " + text):
                with self.subTest(joined):
                    self.assertIs(is_range(joined), False)

    def test_wrong_joins(self):
        for joint in ("||", " ||", "|| ", "  || ", " ||  ", " | ", "|", " ||| ", " |||| ", " || || ", " ", ", ",
                      "\t|| ", " ||\n", " or ", " && ", "\u00a0||\u00a0"):
            with self.subTest(joint):
                self.assertIs(is_range("*" + joint + "*"), False)
                self.assertIs(is_range("1.0.0" + joint + "2.0.0"), False)
                self.assertIs(is_range("* || *" + joint + "*"), False)

    def test_joins_at_the_ends(self):
        for text in ("* || ", " || *", " || ", "||", "* ||", "|| *", " ||  || ", "* ||  || *", "* || || *"):
            self.assertIs(is_range(text), False, text)

    def test_values_that_are_no_texts(self):
        for value in no_texts() + [("*",), ("^", "1.0.0"), ()]:
            self.assertIs(is_range(value), False)


class Satisfying(CheckedCase):
    def test_edges_of_each_alternative(self):
        for wanted, inside, outside in EDGES:
            for version in inside:
                self.assertIs(satisfies(version, wanted), True, (version, wanted))
            for version in outside:
                self.assertIs(satisfies(version, wanted), False, (version, wanted))

    def test_one_satisfied_alternative_is_enough(self):
        versions = sorted({version for _, inside, outside in EDGES for version in inside + outside})
        singles = {(version, wanted): satisfies(version, wanted) for version in versions for wanted, _, _ in EDGES}
        for first, _, _ in EDGES:
            for second, _, _ in EDGES:
                for version in versions:
                    either = singles[version, first] or singles[version, second]
                    self.assertIs(satisfies(version, first + " || " + second), either, (version, first, second))

    def test_each_of_three_alternatives_counts(self):
        wanted = "1.0.0 || ~2.3.0 || >=4.0.0 <5.0.0"
        for version in ("1.0.0", "2.3.0", "2.3.9", "4.0.0", "4.999.999"):
            self.assertIs(satisfies(version, wanted), True, version)
        for version in ("1.0.1", "0.999.999", "2.2.999", "2.4.0", "3.999.999", "5.0.0"):
            self.assertIs(satisfies(version, wanted), False, version)

    def test_numbers_are_not_compared_as_texts(self):
        self.assertIs(satisfies("1.10.0", "^1.9.0"), True)
        self.assertIs(satisfies("10.0.0", ">=9.0.0 <11.0.0"), True)
        self.assertIs(satisfies("1.2.10", "~1.2.9"), True)
        self.assertIs(satisfies("1.2.9", "~1.2.10"), False)

    def test_no_version(self):
        for value in no_texts() + list(NO_VERSIONS) + [("1.0.0",)]:
            self.raises(BadVersion, satisfies, value, "*")

    def test_no_range(self):
        for value in no_texts() + list(NO_ALTERNATIVES) + [("*",), "* || * || * || *"]:
            self.raises(BadRange, satisfies, "1.0.0", value)

    def test_bad_version_ahead_of_bad_range(self):
        for version in (None, 1, "", "1.0", "^1.0.0"):
            for wanted in (None, 1, "", "1.0", "**"):
                self.raises(BadVersion, satisfies, version, wanted)
