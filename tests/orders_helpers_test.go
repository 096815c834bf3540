package tests

import (
	"slices"
	"sync"

	"loop.example/checksinorder/impl"
)

// allOrders are the orders of each number of tests, as ordersOf lists them.
var allOrders = sync.OnceValue(func() [6][][]int {
	var lists [6][][]int
	for many := 1; many <= 5; many++ {
		lists[many] = slices.DeleteFunc(rowsOf(many, 0, many-1), func(row []int) bool { return !hasEach(row) })
	}
	return lists
})

// ordersOf lists all orders of so many tests; of two of them the one with the lesser test, where they differ first, is ahead.
func ordersOf(many int) [][]int {
	return allOrders()[many]
}

// hasEach tells whether a row has each number from 0 on once, as many as it is long.
func hasEach(row []int) bool {
	return slices.Equal(slices.Sorted(slices.Values(row)), ascending(len(row)))
}

// ascending is the row of so many numbers from 0 on.
func ascending(length int) []int {
	row := make([]int, length)
	for i := range row {
		row[i] = i
	}
	return row
}

// reversed is a row from its last number to its first one.
func reversed(row []int) []int {
	row = slices.Clone(row)
	slices.Reverse(row)
	return row
}

// setOf is the set of some tests, as a number as states are.
func setOf(row []int) int {
	some := 0
	for _, at := range row {
		some += power(2, at)
	}
	return some
}

// askedIn tells with how many tests of an order there is first a proof in a state.
func askedIn(truth []bool, order []int, state int) int {
	asked := 0
	for !provesIn(truth, state, setOf(order[:asked])) {
		asked++
	}
	return asked
}

// costIn is what those tests cost together.
func costIn(tests []impl.Test, truth []bool, order []int, state int) int {
	cost := 0
	for _, at := range order[:askedIn(truth, order, state)] {
		cost += tests[at].Cost
	}
	return cost
}

// averageIn is what an order costs in all states, by their weights.
func averageIn(tests []impl.Test, truth []bool, order []int) int {
	average := 0
	for state := range truth {
		average += impl.WeightOf(tests, state) * costIn(tests, truth, order, state)
	}
	return average
}

// bestIn is the first one of all orders that none costs less than, and what it costs.
func bestIn(tests []impl.Test, truth []bool) ([]int, int) {
	return firstLeast(ordersOf(len(tests)), func(order []int) int { return averageIn(tests, truth, order) })
}

// firstLeast is the first one of a list for which a number is least, and that number.
func firstLeast[E any](list []E, numberOf func(element E) int) (E, int) {
	numbers := make([]int, len(list))
	for i, element := range list {
		numbers[i] = numberOf(element)
	}
	least := slices.Min(numbers)
	return list[slices.Index(numbers, least)], least
}

// exchanged is a row with the numbers at two places exchanged.
func exchanged(row []int, first, second int) []int {
	row = slices.Clone(row)
	row[first], row[second] = row[second], row[first]
	return row
}

// testLists are rows of so many tests: one of various costs and chances, which differ from turn to turn, and those of which costs, or chances, or both are equal.
func testLists(many, turn int) [][]impl.Test {
	various := turnedTests(many, turn)
	costs, chances := slices.Clone(various), slices.Clone(various)
	for at := range various {
		costs[at].Cost = 1 + turn%9
		chances[at].Chance = 1 + turn%5
	}
	return [][]impl.Test{various, costs, chances, equalTests(many, 1+turn%5)}
}

// eachTested calls visit for the terms of eachSomeTerm, each with one of testLists in turn; those of edgeTerms with each one.
func eachTested(visit func(tests []impl.Test, term []impl.Mark)) {
	turn := 0
	eachSomeTerm(func(many int, term []impl.Mark) {
		turn++
		lists := testLists(many, turn)
		if turn > len(edgeTerms) {
			lists = lists[turn%4:][:1]
		}
		for _, tests := range lists {
			visit(tests, term)
		}
	})
}

// eachOrdered calls visit for the terms of eachSomeTerm with orders, and with each of testLists in turn: those of edgeTerms with all orders, and the others with the first one, the last one, and one that differs from turn to turn.
func eachOrdered(visit func(tests []impl.Test, term []impl.Mark, order []int)) {
	turn := 0
	eachSomeTerm(func(many int, term []impl.Mark) {
		turn++
		lists, orders := testLists(many, turn), ordersOf(many)
		if last := len(orders) - 1; turn > len(edgeTerms) {
			orders = [][]int{orders[0], orders[7*turn%len(orders)], orders[last]}
		}
		for i, order := range orders {
			visit(lists[(turn+i)%len(lists)], term, order)
		}
	})
}

// badOrders are rows that are no orders of so many tests: too short, too long, with a test twice, and with a number that is no test.
func badOrders(many int) [][]int {
	first := ascending(many)
	list := [][]int{nil, {}, first[1:], first[:many-1], ascending(many + 1), slices.Concat(first, []int{0}), slices.Concat(first, first), make([]int, 64), ascending(1000)}
	for at := range many {
		for _, number := range append(farNumbers(), many, many+1, 5, 6) {
			row := slices.Clone(first)
			row[at] = number
			list = append(list, row)
		}
		if many > 1 {
			row := slices.Clone(first)
			row[at] = (at + 1) % many
			list = append(list, row)
		}
	}
	return list
}
