"""Runs every test_*.py below the folders that are named; a folder that is missing, or no test at all, is a failure."""

import pathlib
import subprocess
import sys


def test_files(folder):
    if not folder.is_dir():
        sys.exit(f"no such folder: {folder}")
    return sorted(folder.rglob("test_*.py"))


def passes(path):
    print(f"== {path}", flush=True)
    # A process a file, so that files of one name in two folders don't meet, and none changes what another sees.
    command = [sys.executable, "-m", "unittest", "discover", "-s", str(path.parent), "-p", path.name]
    done = subprocess.run(command, stdout=subprocess.PIPE, stderr=subprocess.STDOUT, text=True)
    print(done.stdout, flush=True)
    return done.returncode == 0 and "Ran 0 tests" not in done.stdout


def main(folders):
    paths = [path for folder in folders for path in test_files(pathlib.Path(folder))]
    failed = [path for path in paths if not passes(path)]
    for path in failed:
        print(f"failed: {path}")
    print(f"files: {len(paths) - len(failed)} passed, {len(failed)} failed")
    return 1 if failed or not paths else 0


sys.exit(main(sys.argv[1:]))
