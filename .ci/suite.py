"""Runs every test of the project and every test under ../shared/tests, and tells how many passed and failed."""

import importlib.util
import os
import sys
import unittest

ROOT = os.path.dirname(os.path.dirname(os.path.abspath(__file__)))
SHARED = os.path.join(os.path.dirname(ROOT), "shared", "tests")


def test_files(folder):
    """The paths of all files test_*.py in a folder and the folders below it, in order."""
    found = []
    for place, folders, names in os.walk(folder):
        found += [os.path.join(place, name) for name in names if name.startswith("test_") and name.endswith(".py")]
    return sorted(found)


def shared_tests(path, number):
    """The tests of one shared file, under a module name that no test of the project has."""
    name = f"shared_{number}_{os.path.basename(path)[:-3]}"
    # A test may import what stands beside it, but nothing there comes ahead of the project's own modules.
    if os.path.dirname(path) not in sys.path:
        sys.path.append(os.path.dirname(path))
    spec = importlib.util.spec_from_file_location(name, path)
    module = importlib.util.module_from_spec(spec)
    sys.modules[name] = module
    spec.loader.exec_module(module)
    return unittest.defaultTestLoader.loadTestsFromModule(module)


def broken_file(path, error):
    """A test that fails as its file cannot be loaded."""

    def fail():
        raise AssertionError(f"{path} cannot be loaded: {error!r}")

    return unittest.FunctionTestCase(fail, description=path)


def all_tests():
    tests = unittest.TestSuite()
    tests.addTest(unittest.defaultTestLoader.discover(os.path.join(ROOT, "tests"), top_level_dir=ROOT))
    for number, path in enumerate(test_files(SHARED)):
        try:
            tests.addTest(shared_tests(path, number))
        except Exception as error:
            tests.addTest(broken_file(path, error))
    return tests


class Counted(unittest.TextTestResult):
    """Keeps the tests that passed and those that did not, each once, whatever their subtests did."""

    def __init__(self, stream, descriptions, verbosity, **more):
        super().__init__(stream, descriptions, verbosity, **more)
        self.passed = set()
        self.failed = set()

    def addSuccess(self, test):
        super().addSuccess(test)
        self.passed.add(test)

    def addExpectedFailure(self, test, err):
        super().addExpectedFailure(test, err)
        self.passed.add(test)

    def addFailure(self, test, err):
        super().addFailure(test, err)
        self.failed.add(test)

    def addError(self, test, err):
        super().addError(test, err)
        self.failed.add(test)

    def addSubTest(self, test, subtest, err):
        super().addSubTest(test, subtest, err)
        if err is not None:
            self.failed.add(test)

    def addUnexpectedSuccess(self, test):
        super().addUnexpectedSuccess(test)
        self.failed.add(test)


def main():
    sys.path.insert(0, ROOT)
    result = unittest.TextTestRunner(stream=sys.stdout, resultclass=Counted).run(all_tests())
    passed = len(result.passed - result.failed)
    failed = len(result.failed)
    print(f"{passed} passed, {failed} failed", flush=True)
    return 0 if passed and not failed else 1


if __name__ == "__main__":
    sys.exit(main())
