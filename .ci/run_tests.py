"""Runs all files test_*.py below the folders that are named, and fails if one test fails."""

import importlib.util
import pathlib
import sys
import unittest

ROOT = pathlib.Path(__file__).resolve().parent.parent


def loaded(path, number):
    """The file as a module of its own name, so that files of two folders may be called alike."""
    spec = importlib.util.spec_from_file_location(f"case_{number}_{path.stem}", path)
    module = importlib.util.module_from_spec(spec)
    sys.modules[spec.name] = module
    sys.path.insert(0, str(path.parent))
    try:
        spec.loader.exec_module(module)
    finally:
        sys.path.remove(str(path.parent))
    return module


def main(folders):
    sys.path.insert(0, str(ROOT))
    paths = []
    for folder in folders:
        where = (ROOT / folder).resolve()
        found = sorted(where.rglob("test_*.py"))
        print(f"{folder}: {len(found)} files", flush=True)
        paths += found
    suite = unittest.TestSuite()
    for number, path in enumerate(paths):
        suite.addTests(unittest.defaultTestLoader.loadTestsFromModule(loaded(path, number)))
    result = unittest.TextTestRunner(verbosity=1).run(suite)
    failed = len(result.failures) + len(result.errors) + len(result.unexpectedSuccesses)
    passed = result.testsRun - failed - len(result.skipped)
    print(f"{passed} passed, {failed} failed", flush=True)
    return 0 if result.wasSuccessful() and passed > 0 else 1


if __name__ == "__main__":
    sys.exit(main(sys.argv[1:]))
