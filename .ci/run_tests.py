"""Runs the files test_*.py of tests/ and ../shared/tests, each by `python3 -m unittest` in its own process."""

import concurrent.futures
import os
import pathlib
import re
import subprocess
import sys

ROOT = pathlib.Path(__file__).resolve().parent.parent
FOLDERS = (ROOT / "tests", ROOT.parent / "shared" / "tests")
# unittest ends with this code from Python 3.12 on if a file holds no test; then none has failed.
NO_TESTS = 5


def test_files():
    found = []
    for folder in FOLDERS:
        found += sorted(path for path in folder.rglob("test_*.py") if path.is_file())
    return found


def run_file(path):
    environment = dict(os.environ)
    places = [path.parent, *(folder for folder in FOLDERS if folder in path.parents), ROOT]
    environment["PYTHONPATH"] = os.pathsep.join(map(str, places))
    environment["PYTHONDONTWRITEBYTECODE"] = "1"
    command = [sys.executable, "-m", "unittest", path.stem]
    done = subprocess.run(command, cwd=ROOT, env=environment, text=True, errors="replace",
                          stdout=subprocess.PIPE, stderr=subprocess.STDOUT)
    return path, done.returncode, done.stdout


def counted(output, code):
    """Return how many tests passed, failed and were skipped, by the closing lines of unittest."""
    runs = re.findall(r"^Ran (\d+) tests? in ", output, re.MULTILINE)
    ran = int(runs[-1]) if runs else 0
    closing = output[output.rfind("\nRan "):]
    numbers = {word: int(many) for word, many in re.findall(r"(\w+)=(\d+)", closing)}
    failed = numbers.get("failures", 0) + numbers.get("errors", 0) + numbers.get("successes", 0)
    skipped = numbers.get("skipped", 0)
    if code not in (0, NO_TESTS):
        failed = max(1, failed)
    return max(0, ran - failed - skipped), failed, skipped


def main():
    passed = failed = skipped = 0
    with concurrent.futures.ThreadPoolExecutor(os.cpu_count()) as pool:
        for path, code, output in pool.map(run_file, test_files()):
            good, bad, left_out = counted(output, code)
            passed, failed, skipped = passed + good, failed + bad, skipped + left_out
            print(f"{os.path.relpath(path, ROOT)}: {good} passed, {bad} failed", flush=True)
            if bad:
                print(output, flush=True)
    print(f"{passed} passed, {failed} failed" + (f", {skipped} skipped" if skipped else ""))
    return 1 if failed or not passed else 0


if __name__ == "__main__":
    sys.exit(main())
