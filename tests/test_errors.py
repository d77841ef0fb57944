import unittest

from bornroots import errors

NAMES = """Off BadName BadPath BadNumber NotGood TopFolder NoName NotFolder IsFolder Taken NoNode FolderFull
NotEmpty Within TooLong NoVolume NoRoot NoSnap HasSnaps Cloned NotClone NoBase Changed BadStream Quota NoRoom
BookFull NoElder NoPool Broken LastDrive AlreadyOff AlreadyOn TooMany BadLine""".split()


class ErrorsTest(unittest.TestCase):
    def test_there_are_35_beside_refused(self):
        self.assertEqual(len(set(NAMES)), 35)
        told = [name for name in vars(errors) if isinstance(getattr(errors, name), type)]
        self.assertEqual(sorted(told), sorted([*NAMES, "Refused"]))

    def test_refused_is_a_value_error(self):
        self.assertEqual(errors.Refused.__bases__, (ValueError,))
        self.assertEqual(errors.Refused(3).what, 3)
        self.assertEqual(errors.Refused(what=3).what, 3)

    def test_each_stands_directly_under_refused_alone(self):
        for name in NAMES:
            with self.subTest(name):
                self.assertEqual(getattr(errors, name).__bases__, (errors.Refused,))
                self.assertEqual(getattr(errors, name).__module__, "bornroots.errors")

    def test_each_keeps_the_very_value(self):
        for name in NAMES:
            error = getattr(errors, name)
            for value in (None, 0, "a@s", (), [1, 2]):
                with self.subTest(name=name, value=value):
                    self.assertIs(error(value).what, value)
                    self.assertIs(error(what=value).what, value)
                    with self.assertRaises(ValueError) as caught:
                        raise error(value)
                    self.assertIs(caught.exception.what, value)

    def test_each_is_made_of_one_value(self):
        for name in NAMES:
            with self.subTest(name):
                with self.assertRaises(TypeError):
                    getattr(errors, name)()
                with self.assertRaises(TypeError):
                    getattr(errors, name)(1, 2)

    def test_none_catches_another(self):
        for name in NAMES:
            for other in NAMES:
                if name != other:
                    self.assertNotIsInstance(getattr(errors, name)(1), getattr(errors, other))


if __name__ == "__main__":
    unittest.main()
