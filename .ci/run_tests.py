"""Run the tests of all folders below those that are named, and tell how many ran."""

import pathlib
import re
import subprocess
import sys

NO_TESTS_RAN = 5
# Of "expected failures=" nothing is wrong.
FAILED = ("(?<!expected )failures=", "errors=", "unexpected successes=")


def folders_with_tests(root):
    return sorted({path.parent for path in pathlib.Path(root).rglob("test_*.py")})


def number_behind(word, text):
    found = re.search(word + r"(\d+)", text)
    return int(found.group(1)) if found else 0


def run_folder(folder):
    """How many tests ran and how many failed there.

    Each folder has a process of its own, as two may hold files of the same name.
    """
    words = [sys.executable, "-m", "unittest", "discover", "-s", str(folder), "-t", str(folder), "-p", "test_*.py"]
    done = subprocess.run(words, stdout=subprocess.PIPE, stderr=subprocess.STDOUT, text=True, errors="replace")
    print(f"== {folder}\n{done.stdout}", flush=True)
    closing = done.stdout[done.stdout.rfind("\nRan "):]
    ran = number_behind("Ran ", closing)
    failed = sum(number_behind(word, closing) for word in FAILED)
    if done.returncode not in (0, NO_TESTS_RAN):
        failed = max(failed, 1)
    return ran, failed


def main(roots):
    missing = [root for root in roots if not pathlib.Path(root).is_dir()]
    if missing:
        print(f"no such folder: {', '.join(missing)}")
        return 1
    ran = failed = 0
    for root in roots:
        for folder in folders_with_tests(root):
            folder_ran, folder_failed = run_folder(folder)
            ran += folder_ran
            failed += folder_failed
    print(f"{ran} tests ran")
    print(f"{max(ran - failed, 0)} passed, {failed} failed")
    return 0 if ran and not failed else 1


if __name__ == "__main__":
    sys.exit(main(sys.argv[1:]))
