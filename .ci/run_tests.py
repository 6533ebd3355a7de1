"""Runs each file test_*.py below the folders handed in, and closes with a line that tells how many tests ran."""

import io
import sys
import unittest
from concurrent.futures import ProcessPoolExecutor
from pathlib import Path

ROOT = Path(__file__).resolve().parent.parent


def run_file(path):
    """What a file's tests come to: (passed, failed, skipped, what unittest printed)."""
    sys.path.insert(0, str(ROOT))
    suite = unittest.TestLoader().discover(str(path.parent), pattern=path.name, top_level_dir=str(path.parent))
    printed = io.StringIO()
    result = unittest.TextTestRunner(stream=printed).run(suite)
    # Several subtests of one test may fail, and a class may fail ahead of its tests.
    wrong = [test for test, _ in result.failures + result.errors] + result.unexpectedSuccesses
    failed = len({getattr(test, "test_case", test).id() for test in wrong})
    skipped = len(result.skipped)
    if not result.wasSuccessful():
        failed = max(1, failed)
    return max(0, result.testsRun - failed - skipped), failed, skipped, printed.getvalue()


def main(folders):
    paths = [path.resolve() for folder in folders for path in sorted(Path(folder).rglob("test_*.py"))]
    passed = failed = skipped = 0
    # A process for each file, as files of two folders may have the same name.
    with ProcessPoolExecutor(max_tasks_per_child=1) as pool:
        for path, told in zip(paths, pool.map(run_file, paths)):
            passed, failed, skipped = passed + told[0], failed + told[1], skipped + told[2]
            print(f"{path}\n{told[3]}", flush=True)
    closing = f"{passed} passed, {failed} failed"
    print(f"{closing}, {skipped} skipped" if skipped else closing)
    return 1 if failed or not passed else 0


if __name__ == "__main__":
    sys.exit(main(sys.argv[1:]))
