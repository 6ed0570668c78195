"""The program as a whole: [1], [2], and the interface's head."""

import ast
import importlib
import os
import pathlib
import subprocess
import sys
import unittest

from samples import bare_star, full_web, some_trees, some_webs
from wardweb.goals import goal_paper, sought
from wardweb.hall import Hall
from wardweb.made import path
from wardweb.maps import first_map, is_map
from wardweb.pages import page, read_page
from wardweb.plans import made, read_plan
from wardweb.sayings import barred, read_saying, truth
from wardweb.strikes import strikes, unfolded
from wardweb.trees import is_tree, lay
from wardweb.wards import paper, paper_holds, ward
from wardweb.webs import Web

ROOT = pathlib.Path(__file__).resolve().parent.parent
NAMES = {
    "webs": "MOST_POINTS COLOURS MARKS Web read_web",
    "maps": "MOST_WAYS MOST_TOLD MOST_ALIKE is_map ways first_map count_maps all_maps alike led",
    "made": "beside times power lots turned folded kept path",
    "trees": "is_tree ties lay lays spots",
    "wards": "MOST_WARD choices ward into_ward paper paper_holds below",
    "sayings": "read_saying saying_text names_of truth clauses barred",
    "strikes": "strikes strikes_hold unfolded",
    "goals": "MOST_GOAL goal_paper goal_holds sought",
    "least": "least_part is_least compared",
    "plans": "read_plan plan_text made",
    "hall": "MOST_THINGS MOST_RULES Hall",
    "pages": "page read_page",
    "errors": "WebError BadSize BadArrow BadMark BadPoint BadTie BadText BadName BadNumber BadSaying BadStrike BadDeed "
              "NotTree NotTold TooMany Taken Full InUse Same Missing NoWeb NoTree NoRule NoThing NoTie NothingLeft",
}

# What is told of many things at once; run again, it must be the same to the sign.
STORY = """
from wardweb.goals import goal_paper, sought
from wardweb.hall import Hall
from wardweb.least import least_part
from wardweb.made import path
from wardweb.pages import page
from wardweb.plans import made, read_plan
from wardweb.sayings import barred, clauses, read_saying
from wardweb.strikes import strikes, unfolded
from wardweb.wards import into_ward, ward
from wardweb.webs import Web, read_web

web, goal = read_web("5 0a1 1a2 2a3 3a4 0b4 p2 q4"), read_web("4 0a1 1a2 2a0 3a3 0b3 p1 q3")
trees = {"x": path("a> a> p"), "y": path("b> q a<"), "z": path("a> a> a> a> a>")}
lists, row = strikes(path("a> a> a> a>"), path("a> a> b>"))
hall = Hall()
hall.together([*[("tree", name, trees[name]) for name in trees], ("web", "w", web), ("web", "g", goal),
               ("rule", "r", "w", "x & z | !y"), ("make", "m", "least(x + [a<] + [p]) * ward(y) + g")])
print(goal_paper(goal), goal_paper(path("a> b<")), sought(path("a> b<"), web), least_part(goal), strikes(web, goal),
      unfolded(path("a> a> a> a>"), path("a> a> b>"), row), barred(read_saying("x & z | z & y"), trees, web),
      clauses(read_saying("x & y | z & (x | y)")), into_ward(trees["z"], web), ward(trees["y"]), page(hall),
      hall.papers("r"), hall.holding())
"""


class Interface(unittest.TestCase):
    def test_all_names_are_there(self):
        for file, names in NAMES.items():
            module = importlib.import_module(f"wardweb.{file}")
            for name in names.split():
                self.assertTrue(hasattr(module, name), (file, name))

    def test_each_is_defined_in_its_file(self):
        for file, names in NAMES.items():
            tree = ast.parse((ROOT / "wardweb" / f"{file}.py").read_text("ascii"))
            found = {node.name for node in tree.body if isinstance(node, (ast.FunctionDef, ast.ClassDef))}
            found |= {target.id for node in tree.body if isinstance(node, ast.Assign) for target in node.targets}
            self.assertLessEqual(set(names.split()), found, file)

    def test_asked_again_it_is_the_same(self):
        told = set()
        for seed in ("0", "1", "77", "4000"):
            env = dict(os.environ, PYTHONHASHSEED=seed, PYTHONPATH=str(ROOT), PYTHONDONTWRITEBYTECODE="1")
            done = subprocess.run([sys.executable, "-c", STORY], env=env, capture_output=True, text=True, check=True)
            told.add(done.stdout)
        self.assertEqual(len(told), 1)


class Together(unittest.TestCase):
    def test_a_tree_goes_in_or_the_web_goes_into_the_ward(self):
        for tree in some_trees(901, 12, 4, "ab", 0.1):
            hall = Hall()
            hall.together([("tree", "t", tree), ("make", "ward", "ward(t)"), ("rule", "r", "ward", "!t")])
            self.assertEqual(hall.holding(), ["r"])
            for web in some_webs(902, 12, 4, 0.15):
                hall.do(("web", "w", web))
                hall.do(("rule", "s", "w", "t"))
                told = hall.papers("s")[0][1]
                self.assertEqual(told, paper(tree, web))
                self.assertEqual(told[0] == "lies", hall.holds("s"))
                self.assertTrue(paper_holds(tree, web, told))
                if told[0] == "shut":
                    self.assertTrue(is_map(web, hall.web("ward"), told[1]))

    def test_what_goes_into_two_wards(self):
        # Into the wards' product goes just what goes into both, of which neither tree is true.
        trees = {"x": path("a> p"), "y": path("b<")}
        goal = made(read_plan("ward(x) * ward(y)"), trees)
        for web in some_webs(903, 40, 4, 0.15):
            told = barred(read_saying("x | y"), trees, web)
            self.assertEqual(told is None, first_map(web, goal) is None)
            self.assertEqual(truth(read_saying("x | y"), trees, web), told is None)

    def test_strikes_bar_just_what_a_told_goal_shuts_out(self):
        webs = some_webs(904, 20, 5, 0.12)
        for goal in some_webs(905, 20, 3, 0.3):
            if goal_paper(goal)[0] == "trees":
                for web in webs:
                    word, shown = sought(goal, web)
                    if word == "goes":
                        self.assertTrue(is_map(web, goal, shown))
                        self.assertIsNone(unfolded(web, goal, strikes(web, goal)[1]))
                    else:
                        self.assertIsNone(first_map(web, goal))
                        tree, images = unfolded(web, goal, shown)
                        self.assertTrue(is_tree(tree) and is_map(tree, web, images) and lay(tree, goal) is None)

    def test_a_ward_is_told_by_its_tree(self):
        for text in ("p", "a>", "a> a>", "p a> q"):
            goal = ward(path(text))
            self.assertEqual(goal_paper(goal)[0], "trees")

    def test_greatest_things(self):
        hall = Hall()
        hall.together([("web", "w", full_web(81)), ("web", "e", Web(0)), ("tree", "s", bare_star(64)),
                       ("rule", "r", "w", "s"), ("rule", "q", "e", "s")])
        self.assertEqual((hall.holding(), hall.broken()), (["r"], ["q"]))
        self.assertEqual(hall.papers("q"), [("s", ("shut", []))])
        self.assertEqual(read_page(page(hall)), hall)


if __name__ == "__main__":
    unittest.main()
