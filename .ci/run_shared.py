"""Run every test_*.py of a folder that may not be there, each folder of files in a process of its own."""

import os
import subprocess
import sys


def folders_with_tests(top):
    """All folders under top that hold a file test_*.py."""
    for folder, _, files in os.walk(top):
        if any(name.startswith("test_") and name.endswith(".py") for name in files):
            yield folder


def main(top):
    failed = False
    for folder in sorted(folders_with_tests(top)):
        print("tests of", folder, flush=True)
        done = subprocess.run([sys.executable, "-m", "unittest", "discover", "-s", folder, "-t", folder], check=False)
        # from Python 3.12 on, 5 tells that there was no test to run
        failed = failed or done.returncode not in (0, 5)
    return 1 if failed else 0


if __name__ == "__main__":
    sys.exit(main(sys.argv[1]))
