import unittest

from stealbeats import errors

PLAIN = ("BadMemory", "BadBeats", "BadWindow", "BadClaim", "BadRow", "Crooked")
WITH_AT = ("BadProgram", "BadWorks", "BadAsks", "BadLog")


class Errors(unittest.TestCase):
    def test_any_refusal_is_a_value_error(self):
        self.assertEqual(errors.BeatError.__bases__, (ValueError,))

    def test_each_class_is_a_beat_error_itself(self):
        for name in PLAIN + WITH_AT + ("BadText",):
            self.assertEqual(getattr(errors, name).__bases__, (errors.BeatError,), name)

    def test_plain_ones_take_words(self):
        for name in PLAIN:
            self.assertEqual(str(getattr(errors, name)("so it is")), "so it is")

    def test_at_is_set_when_made(self):
        for name in WITH_AT:
            self.assertEqual(getattr(errors, name)(7).at, 7)

    def test_a_text_has_its_row(self):
        self.assertEqual(errors.BadText(9).row, 9)
