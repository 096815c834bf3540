package tests

import (
	"slices"
	"sync"

	"loop.example/checksinorder/impl"
)

// bothRows are the kinds of rows: of which all are to come out yes, and of which one at least is.
var bothRows = []int{impl.RowAnd, impl.RowOr}

// badRows are numbers that tell no kind of row; 2 and 3 are those of the marks of rows.
func badRows() []int {
	return append(farNumbers(), 2, 3, 4, 5, 6)
}

// signIn is the sign of a kind of row.
func signIn(row int) string {
	if row == impl.RowAnd {
		return "&"
	}
	return "|"
}

// rowOf is the row of so many tests, put together from its first two tests on.
func rowOf(many, row int) []impl.Mark {
	signs := "a"
	for at := 1; at < many; at++ {
		signs += "abcde"[at:at+1] + signIn(row)
	}
	return marksOf(signs)
}

// endsRow tells whether a row is over once a test comes out so.
func endsRow(isYes bool, row int) bool {
	return isYes == (row == impl.RowOr)
}

// endOf is the chance of a test to end a row, in sixths.
func endOf(test impl.Test, row int) int {
	end := 0
	for _, isYes := range []bool{false, true} {
		if endsRow(isYes, row) {
			end += map[bool]int{false: 6 - test.Chance, true: test.Chance}[isYes]
		}
	}
	return end
}

// ratioIn is 60 times the ratio of the cost of a test to its chance to end a row: 60 is divided by each chance.
func ratioIn(test impl.Test, row int) int {
	return test.Cost * (60 / endOf(test, row))
}

// sortedIn lists tests by these ratios, of equal ones the lesser test first.
func sortedIn(tests []impl.Test, row int) []int {
	order := ascending(len(tests))
	slices.SortStableFunc(order, func(first, second int) int {
		return ratioIn(tests[first], row) - ratioIn(tests[second], row)
	})
	return order
}

// rowAverageIn is what is asked in all states until the row is over, by their weights.
func rowAverageIn(tests []impl.Test, order []int, row int) int {
	average := 0
	for state := range power(2, len(tests)) {
		weight := impl.WeightOf(tests, state)
		for _, at := range order {
			average += weight * tests[at].Cost
			if endsRow(saysYes(state, at), row) {
				break
			}
		}
	}
	return average
}

// endingTests makes tests of costs, and chances to end a row.
func endingTests(costsAndEnds [][2]int, row int) []impl.Test {
	var tests []impl.Test
	for _, test := range costsAndEnds {
		chance := test[1]
		if row == impl.RowAnd {
			chance = 6 - chance
		}
		tests = append(tests, impl.Test{Cost: test[0], Chance: chance})
	}
	return tests
}

// edgeRows are costs, and chances to end a row, with what is easily forgotten.
var edgeRows = [][][2]int{
	// One test alone, up to the greatest cost and chance.
	{{1, 1}}, {{1, 5}}, {{9, 1}}, {{9, 5}},
	// Equal ratios of different costs: of all, or of some.
	{{1, 1}, {2, 2}}, {{3, 1}, {9, 3}, {6, 2}}, {{1, 1}, {2, 2}, {3, 3}, {4, 4}, {5, 5}}, {{2, 1}, {4, 2}, {6, 3}, {8, 4}, {2, 1}},
	{{2, 1}, {3, 2}, {4, 2}, {6, 4}, {9, 1}}, {{3, 2}, {9, 5}, {6, 4}, {1, 4}, {3, 2}}, {{9, 3}, {1, 3}, {3, 1}, {2, 1}},
	// Ratios that differ by less than 1.
	{{7, 4}, {9, 5}, {5, 3}, {8, 5}, {3, 2}}, {{1, 5}, {1, 4}, {1, 3}, {1, 2}, {2, 5}}, {{9, 4}, {9, 5}, {7, 3}, {5, 2}, {2, 1}},
	// The ratios go one way, and the costs, or the chances, another one.
	{{9, 5}, {3, 1}, {1, 1}, {4, 5}}, {{1, 1}, {4, 5}}, {{5, 1}, {6, 2}, {7, 3}, {8, 4}, {9, 5}}, {{9, 1}, {1, 5}, {9, 5}, {1, 1}, {5, 3}},
	// MaxTests equal tests.
	{{1, 1}, {1, 1}, {1, 1}, {1, 1}, {1, 1}}, {{9, 1}, {9, 1}, {9, 1}, {9, 1}, {9, 1}}, {{9, 5}, {9, 5}, {9, 5}, {9, 5}, {9, 5}},
}

// numberedTests makes so many tests of a number: of each number less than 45 to the power of many other ones.
func numberedTests(many, number int) []impl.Test {
	tests := make([]impl.Test, many)
	for at := range tests {
		tests[at] = impl.Test{Cost: 1 + number%9, Chance: 1 + number/9%5}
		number /= 45
	}
	return tests
}

// rowTests are lists of tests for rows: those of edgeRows for both kinds in all orders, all of one and of two tests, and some of more.
var rowTests = sync.OnceValue(func() [][]impl.Test {
	var lists [][]impl.Test
	for _, edge := range edgeRows {
		for _, order := range ordersOf(len(edge)) {
			var moved [][2]int
			for _, at := range order {
				moved = append(moved, edge[at])
			}
			lists = append(lists, endingTests(moved, impl.RowAnd), endingTests(moved, impl.RowOr))
		}
	}
	for i, step := range []int{1, 1, 7, 1201, 60013} {
		for number := 0; number < power(45, 1+i); number += step {
			lists = append(lists, numberedTests(1+i, number))
		}
	}
	return lists
})

// eachRow calls visit for rowTests and both kinds of rows.
func eachRow(visit func(tests []impl.Test, row int)) {
	for _, tests := range rowTests() {
		for _, row := range bothRows {
			visit(slices.Clone(tests), row)
		}
	}
}

// eachOrderedRow calls visit for rowTests, both kinds of rows, and orders: the one by ratios, the first one, the last one, and two that differ from turn to turn.
func eachOrderedRow(visit func(tests []impl.Test, order []int, row int)) {
	turn := 0
	eachRow(func(tests []impl.Test, row int) {
		turn++
		orders := ordersOf(len(tests))
		visit(tests, sortedIn(tests, row), row)
		for _, i := range []int{0, 7 * turn, 11*turn + 5, len(orders) - 1} {
			visit(tests, slices.Clone(orders[i%len(orders)]), row)
		}
	})
}

// eachNoOrderedRow calls visit for what lacks just one of tests, an order of them, and a kind of row.
func eachNoOrderedRow(visit func(tests []impl.Test, order []int, row int)) {
	for _, tests := range badTests() {
		for _, row := range bothRows {
			visit(tests, ascending(len(tests)), row)
			visit(tests, reversed(ascending(len(tests))), row)
		}
	}
	for many := 1; many <= 5; many++ {
		for _, order := range badOrders(many) {
			for _, row := range bothRows {
				visit(equalTests(many, 2), order, row)
			}
		}
		for _, row := range badRows() {
			visit(equalTests(many, 2), ascending(many), row)
			visit(turnedTests(many, many), reversed(ascending(many)), row)
		}
	}
}
