"""Section "The interface": each function stands in its file, with the names of its arguments."""
import importlib
import inspect
import unittest

from faultdue.desk import Desk

FUNCTIONS = {
    "budgets": ("check_budgets(budgets)", "above(budgets, k)", "used(budgets, faults)", "is_within(budgets, faults)",
                "remaining(budgets, faults)", "most_faults(budgets, sources)"),
    "recovery": ("worst(budgets, penalties)", "prices_of(budgets, penalties)", "bound_of(budgets, penalties, prices)"),
    "systems": ("check_system(system)", "work_of(item)", "rate_of(system)", "latest_of(system)", "horizon_of(system)"),
    "text": ("shown(system)", "parse(text)"),
    "demand": ("bodies(task, s, e)", "demand(system, s, e)", "penalties(system, s, e)", "analysis(system, s, e)",
               "ends_of(system, s, most)"),
    "admission": ("is_sure(system)", "tightest(system)", "crowded(system)", "paper_of(system)"),
    "judge": ("judge(system, paper)",),
    "plans": ("check_arrivals(system, arrivals)", "check_plan(system, arrivals, plan)", "items_of(system, arrivals)",
              "needs(system, arrivals, plan)", "faults_of(system, arrivals, plan)"),
    "schedules": ("run_of(system, arrivals, plan)", "verdict(system, arrivals, plan, schedule)", "worst_of(system, s, e)"),
    "splits": ("even(work, count)", "cost(parts, overhead, faults)", "best(work, overhead, faults)",
               "best_costs(work, overhead, most)"),
    "margins": ("longest_length(system, kind, index, segment)", "earliest_due(system, kind, index)",
                "greatest_capacity(system, budget)", "least_gap(system, index)",
                "longest_new(system, release, due, source)"),
    "picks": ("picked(system, pick)", "best_pick(system, worths)", "full_picks(system)"),
    "dangers": ("least_faults(system)", "bearable(system)"),
    "sessions": ("shown_session(budgets, log)", "parse_session(text)"),
    "charts": ("chart(system, arrivals, plan)",),
    "papertext": ("shown_paper(paper)", "parse_paper(text, many)"),
    "tables": ("table(system)",),
    "replay": ("replay(budgets, log)",),
}
METHODS = ("__init__(self, budgets)", "admit(self, thing)", "arrive(self, name)", "cancel(self, name)",
           "grant(self, budget, more)", "run(self, until)", "report(self, faulty)", "undo(self)", "now(self)",
           "pending(self)", "remaining(self)", "finished(self)", "log(self)")


class SignatureTest(unittest.TestCase):
    def test_functions(self):
        for name, functions in FUNCTIONS.items():
            module = importlib.import_module(f"faultdue.{name}")
            for told in functions:
                function = getattr(module, told.partition("(")[0])
                self.assertEqual(function.__name__ + str(inspect.signature(function)), told)
                self.assertEqual(function.__module__, f"faultdue.{name}")

    def test_methods_of_the_desk(self):
        self.assertEqual(Desk.__module__, "faultdue.desk")
        for told in METHODS:
            method = vars(Desk)[told.partition("(")[0]]
            self.assertEqual(method.__name__ + str(inspect.signature(method)), told)


if __name__ == "__main__":
    unittest.main()
