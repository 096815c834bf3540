package tests

import (
	"math/big"
	"slices"
	"sync"

	"loop.example/checksinorder/impl"
)

// partIn is what it costs in all states of all tests to ask some of them, as they stand, until one comes out no, and the weight of the states in which one does.
func partIn(tests []impl.Test, part []int) (int, int) {
	cost, ends := 0, 0
	for state := range power(2, len(tests)) {
		weight := impl.WeightOf(tests, state)
		for _, at := range part {
			cost += weight * tests[at].Cost
			if !saysYes(state, at) {
				ends += weight
				break
			}
		}
	}
	return cost, ends
}

// partRatioIn is the ratio of both.
func partRatioIn(tests []impl.Test, part []int) *big.Rat {
	cost, ends := partIn(tests, part)
	return big.NewRat(int64(cost), int64(ends))
}

// keepsIn tells whether each chain stands in an order as it is, if all other tests are left out.
func keepsIn(chains [][]int, order []int) bool {
	for _, chain := range chains {
		standing := slices.DeleteFunc(slices.Clone(order), func(at int) bool { return !slices.Contains(chain, at) })
		if !slices.Equal(standing, chain) {
			return false
		}
	}
	return true
}

// keepingOrders lists all orders of so many tests that keep chains.
func keepingOrders(many int, chains [][]int) [][]int {
	return slices.DeleteFunc(slices.Clone(ordersOf(many)), func(order []int) bool { return !keepsIn(chains, order) })
}

// chainBestIn is what the cheapest one of these orders costs in all states.
func chainBestIn(tests []impl.Test, chains [][]int) int {
	least := -1
	for _, order := range keepingOrders(len(tests), chains) {
		if average := rowAverageIn(tests, order, impl.RowAnd); least == -1 || average < least {
			least = average
		}
	}
	return least
}

// leastPartIn tells the chain and the tests of the first part with the least ratio: first parts are listed as they are to be taken if they are equal, and sorted so that equal ones stay.
func leastPartIn(tests []impl.Test, left [][]int) (int, []int) {
	type firstPart struct {
		at    int
		part  []int
		ratio *big.Rat
	}
	var list []firstPart
	for at, chain := range left {
		for i := range chain {
			list = append(list, firstPart{at, chain[:i+1], partRatioIn(tests, chain[:i+1])})
		}
	}
	slices.SortStableFunc(list, func(first, second firstPart) int { return first.ratio.Cmp(second.ratio) })
	return list[0].at, list[0].part
}

// chainOrderIn is the order of tests that is made of these first parts.
func chainOrderIn(tests []impl.Test, chains [][]int) []int {
	var order []int
	left := copied(chains)
	for len(order) < len(tests) {
		at, part := leastPartIn(tests, left)
		order = append(order, part...)
		left[at] = left[at][len(part):]
	}
	return order
}

// cutChain is chains of which the one at a place is cut in two behind so many of its tests; the second part goes to a place among the chains.
func cutChain(chains [][]int, at, behind, to int) [][]int {
	changed := copied(chains)
	first, second := changed[at][:behind], slices.Clone(changed[at][behind:])
	changed[at] = slices.Clone(first)
	return slices.Insert(changed, to, second)
}

// joinedChain is chains of which the first one and the second one are one.
func joinedChain(chains [][]int) [][]int {
	return joinedRows(chains, 0)
}

// edgeChains are chains of costs and chances, with what is easily forgotten.
var edgeChains = [][][][2]int{
	// Equal ratios within one chain: of all first parts, of some shorter ones, and of ones with longer or dearer ones in between.
	{{{4, 4}, {6, 3}, {2, 5}, {4, 4}, {2, 5}}}, {{{1, 4}, {1, 4}, {2, 2}}}, {{{3, 2}, {3, 2}, {1, 5}}}, {{{7, 1}, {6, 3}, {2, 2}}}, {{{8, 3}, {5, 2}, {8, 3}, {5, 2}}}, {{{6, 3}, {8, 4}, {2, 2}, {9, 3}, {2, 2}}}, {{{2, 5}, {8, 3}, {1, 4}, {3, 5}, {1, 4}}},
	// The same, and a test that goes ahead of the chain, in between, behind it, or anywhere.
	{{{7, 1}, {6, 3}, {2, 2}}, {{1, 3}}}, {{{7, 1}, {6, 3}, {2, 2}}, {{9, 5}}}, {{{8, 3}, {5, 2}, {8, 3}, {5, 2}}, {{9, 4}}}, {{{6, 3}, {7, 4}, {2, 3}, {1, 5}}, {{4, 4}}}, {{{8, 2}, {6, 3}, {6, 5}, {9, 4}}, {{2, 5}}}, {{{4, 2}, {4, 3}, {3, 1}, {1, 5}}, {{1, 5}}},
	// Equal ratios of two chains: of as many first tests, or not.
	{{{4, 4}}, {{9, 2}, {3, 3}}}, {{{1, 4}}, {{2, 3}, {1, 2}, {8, 5}}}, {{{4, 2}}, {{4, 3}, {2, 2}, {7, 4}, {7, 2}}}, {{{4, 3}, {2, 5}}, {{5, 3}, {2, 3}}}, {{{2, 4}, {5, 2}}, {{4, 3}, {1, 3}, {6, 1}}}, {{{8, 2}}, {{9, 2}, {3, 4}, {5, 2}}}, {{{4, 2}}, {{4, 3}, {3, 3}, {1, 1}, {5, 5}}}, {{{5, 4}, {5, 5}}, {{8, 3}, {7, 3}, {4, 4}}},
	{{{7, 1}}, {{3, 4}, {6, 2}, {3, 3}, {1, 4}}}, {{{6, 3}, {2, 4}}, {{7, 2}, {7, 4}}}, {{{9, 5}, {2, 5}}, {{9, 5}, {2, 5}}}, {{{9, 2}, {3, 3}}, {{4, 4}, {7, 3}, {9, 2}}}, {{{7, 3}, {4, 3}}, {{8, 4}, {2, 4}, {4, 1}}}, {{{8, 3}, {9, 2}}, {{9, 3}, {5, 4}, {8, 1}}},
	// Equal ratios of three chains.
	{{{4, 4}}, {{6, 3}}, {{6, 4}, {1, 4}}}, {{{3, 3}}, {{4, 2}}, {{4, 3}, {1, 3}, {5, 3}}}, {{{4, 2}}, {{3, 3}, {7, 2}}, {{4, 4}, {2, 1}}}, {{{4, 4}}, {{4, 4}}, {{8, 3}, {7, 1}, {2, 2}}}, {{{4, 4}}, {{9, 2}, {1, 4}}, {{9, 3}, {4, 1}}},
	// Equal ratios that are come to later: of a second first part, and of another chain.
	{{{7, 4}}, {{8, 3}, {1, 3}, {8, 4}, {9, 3}}}, {{{4, 5}}, {{6, 3}, {8, 4}}}, {{{7, 2}}, {{5, 1}, {9, 1}, {2, 4}}}, {{{6, 2}, {2, 4}}, {{4, 2}, {6, 4}, {1, 2}}}, {{{8, 2}}, {{2, 5}, {2, 3}, {2, 5}}}, {{{9, 3}}, {{4, 5}, {4, 2}, {2, 1}, {3, 5}}}, {{{2, 5}}, {{8, 1}, {5, 4}, {3, 5}, {5, 2}}}, {{{6, 2}, {6, 3}}, {{9, 2}, {6, 2}, {1, 4}}},
	// Ratios that differ little: of two chains, and within one.
	{{{9, 2}}, {{4, 5}, {8, 2}, {9, 1}, {5, 1}}}, {{{6, 1}, {5, 3}}, {{4, 5}, {2, 5}, {1, 1}}}, {{{7, 1}, {1, 4}}, {{3, 5}, {3, 5}, {1, 2}}}, {{{8, 1}, {4, 1}}, {{8, 1}, {1, 3}}}, {{{9, 1}, {6, 5}, {5, 1}, {1, 2}}, {{9, 1}}}, {{{6, 1}, {4, 5}, {1, 5}, {1, 2}}, {{6, 1}}}, {{{4, 1}, {2, 1}, {3, 2}, {9, 2}}, {{4, 1}}},
	// A dear test that seldom ends all stands ahead of cheap ones that nearly always do, once or twice, or far behind.
	{{{9, 5}, {1, 1}}, {{3, 3}}}, {{{9, 5}, {1, 1}}, {{7, 3}}}, {{{9, 5}, {9, 5}, {9, 5}, {1, 1}}, {{9, 4}}}, {{{4, 5}, {1, 1}, {9, 5}, {2, 1}}, {{4, 2}}}, {{{9, 5}, {1, 1}}, {{9, 5}, {1, 1}}, {{5, 5}}}, {{{9, 5}, {8, 5}, {1, 1}}, {{9, 5}, {1, 2}}}, {{{1, 1}, {9, 5}, {1, 1}}, {{9, 5}, {1, 1}}},
	// Chains of one test each, and one test alone.
	{{{1, 1}}}, {{{9, 5}}}, {{{9, 5}}, {{1, 1}}}, {{{1, 5}}, {{5, 1}}, {{2, 4}}, {{4, 2}}, {{3, 3}}}, {{{9, 5}}, {{9, 5}}, {{1, 1}}, {{9, 1}}, {{1, 5}}},
	// One chain of all: from the dearest test for a no to the cheapest one, and the other way.
	{{{9, 5}, {9, 4}, {5, 3}, {2, 2}, {1, 1}}}, {{{1, 1}, {2, 2}, {5, 3}, {9, 4}, {9, 5}}}, {{{9, 5}, {9, 5}, {9, 5}, {9, 5}, {9, 5}}}, {{{1, 1}, {1, 1}, {1, 1}, {1, 1}, {1, 1}}},
}

// chainedTests are the edges of chains and of groups, and sampledGroups: chains are groups.
var chainedTests = sync.OnceValue(func() []grouped {
	return slices.Concat(numberedEdges(edgeChains), numberedEdges(edgeGroups), sampledGroups())
})

// eachChained calls visit for chainedTests.
func eachChained(visit func(tests []impl.Test, chains [][]int)) {
	for _, g := range chainedTests() {
		visit(slices.Clone(g.tests), copied(g.groups))
	}
}

// eachNoPart calls visit for places of chains, and for numbers of their first tests, that are not there.
func eachNoPart(chains [][]int, visit func(at, many int)) {
	for _, at := range append(farNumbers(), len(chains), len(chains)+1, 5, 6) {
		for many := -1; many <= 6; many++ {
			visit(at, many)
		}
	}
	for at, chain := range chains {
		for _, many := range append(farNumbers(), 0, len(chain)+1, len(chain)+2, 6, 7) {
			visit(at, many)
		}
	}
}

// eachNotKept calls visit for what lacks just one of a number of tests, chains of them, and an order of them.
func eachNotKept(visit func(many int, chains [][]int, order []int)) {
	eachNoGroups(func(many int, chains [][]int) {
		length := min(max(many, 0), 7)
		visit(many, chains, ascending(length))
		visit(many, chains, reversed(ascending(length)))
		visit(many, chains, slices.Concat(chains...))
	})
	for many := 1; many <= 5; many++ {
		for _, order := range badOrders(many) {
			for _, chains := range groupsOf(many) {
				visit(many, chains, order)
			}
		}
		for _, chains := range [][][]int{oneGroup(many), ownGroups(many), turnedRows(ownGroups(many))} {
			for _, other := range append(badMany(), many-1, many+1) {
				visit(other, chains, ascending(many))
			}
			for other := 1; other <= 5; other++ {
				if other != many {
					visit(many, chains, ascending(other))
					visit(other, chains, ascending(other))
				}
			}
		}
	}
}
