import inspect
import unittest

from netsredrawn import errors
from netsredrawn.errors import NetError

FIELDS = {
    "BadWord": ("place",), "BadNet": ("word", "flag"), "BadFlag": ("flag",), "BadDeed": ("word", "cell"),
    "BadPair": ("value",), "BadSign": ("value",), "BadNumber": ("value",), "BadTable": ("word", "place"),
    "BadLot": ("place",), "BadScript": ("place",), "BadLikeness": ("place",), "BadRenaming": ("cell",),
    "BadPaper": ("word",), "BadText": ("line", "column"), "BadName": ("name",), "NotWhole": (),
    "NotPlain": ("cell",), "NotJoined": ("flag",), "NothingBack": (), "TooGreat": ("most",),
}


class ErrorsTest(unittest.TestCase):

    def test_there_are_just_these(self):
        own = {name for name, value in vars(errors).items() if inspect.isclass(value)}
        self.assertEqual(own, set(FIELDS) | {"NetError"})
        self.assertEqual(len(FIELDS), 20)
        self.assertEqual(NetError.__bases__, (ValueError,))

    def test_each_is_directly_below(self):
        for name in FIELDS:
            self.assertEqual(getattr(errors, name).__bases__, (NetError,))

    def test_by_place_and_by_name(self):
        for values in ((1, 2), (None, "x"), ([1], {}), (object(), True)):
            for name, fields in FIELDS.items():
                made = getattr(errors, name)
                told = values[:len(fields)]
                for error in (made(*told), made(**dict(zip(fields, told)))):
                    for field, value in zip(fields, told):
                        self.assertIs(getattr(error, field), value)
                    with self.assertRaises(made):
                        raise error
