"""Runs each file test_*.py below the folders told, several at once, and adds up how they ended.

Each file runs as `python3 -m unittest` in a process of its own, with the
project's folder among those that modules are found in.
"""

import concurrent.futures
import os
import re
import subprocess
import sys


def files_below(folder):
    found = []
    for here, _, names in os.walk(folder):
        found += [os.path.join(here, x) for x in names if re.fullmatch(r"test_.*\.py", x)]
    return sorted(found)


def run_file(path):
    """How many of the file's tests passed and failed, and what it printed."""
    folder, name = os.path.split(path)
    told = subprocess.run(
        [sys.executable, "-W", "error::SyntaxWarning", "-m", "unittest", "discover", "-s", folder, "-p", name],
        stdout=subprocess.PIPE, stderr=subprocess.STDOUT, stdin=subprocess.DEVNULL, text=True)
    ran = re.search(r"^Ran (\d+) tests? in", told.stdout, re.M)
    many = int(ran.group(1)) if ran else 0
    bad = sum(int(n) for n in re.findall(r"(?:failures|errors|unexpected successes)=(\d+)", told.stdout))
    # Later Pythons end with 5 where a file holds no test, earlier ones with 0.
    if ran is None or told.returncode not in ((0,) if many else (0, 5)):
        bad = max(bad, 1)
    return max(many - bad, 0), bad, told.stdout


def main(folders):
    paths = [path for folder in folders for path in files_below(folder)]
    passed = failed = 0
    with concurrent.futures.ThreadPoolExecutor(os.cpu_count() or 1) as pool:
        for path, (well, bad, text) in zip(paths, pool.map(run_file, paths)):
            print(f"{os.path.relpath(path)}: {well} passed, {bad} failed", flush=True)
            if bad:
                print(text, flush=True)
            passed += well
            failed += bad
    print(f"{passed} passed, {failed} failed")
    return 1 if failed or not passed else 0


if __name__ == "__main__":
    sys.exit(main(sys.argv[1:]))
