"""The document's examples, all on one house."""

import unittest

from tests.helper import HouseTest

ROWS = [
    ("sensor lux 500", "ok"),
    ("thing lamp 0", "ok"),
    ("thing blind 0", "ok"),
    ("rule dark 2 after 0 if lux < 100 then lamp is 1", "ok"),
    ("rule light 2 after 3 if ~ lux < 100 then lamp is 0", "ok"),
    ("set lux 20", "ok"),
    ("tick 1", "ok 1"),
    ("state", "3 / lux 20 / lamp 1 1 rule dark / blind 0 0 none"),
    ("why lamp", "2 / rule dark 2 1 / lux < 100 yes"),
    ("set lux 200", "ok"),
    ("tick 3", "ok 4"),
    ("whynot light", "waits 3"),
    ("was lamp 4", "1"),
    ("tick 1", "ok 5"),
    ("was lamp 5", "0"),
    ("hold lamp 1 5 10", "ok 15"),
    ("tick 1", "ok 6"),
    ("why lamp", "hold 1 5 15"),
    ("rule up 1 after 0 if lamp = 1 then blind is blind + 1", "ok"),
    ("rings", "1 / blind"),
    ("rest", "more"),
    ("drop up", "ok"),
    ("rule swap 9 after 0 if lamp = 1 then lamp is 0", "ok"),
    ("rest", "round 0 2"),
    ("rule gap 1 after 0 if mist = 1 then lamp is 0", "no value"),
    ("try lux 5 9", "2 / lamp 0 / blind 0"),
    ("drop swap", "ok"),
    ("whynot dark", "2 / silent / lux < 100 no"),
]


class Examples(HouseTest):
    def test_all_rows_on_one_house(self):
        self.check(ROWS)


if __name__ == "__main__":
    unittest.main()
