package tests

import (
	"slices"
	"sync"

	"loop.example/checksinorder/impl"
)

// listOf lists the tests of a set in ascending order.
func listOf(some int) []int {
	var list []int
	for at := 0; power(2, at) <= some; at++ {
		if saysYes(some, at) {
			list = append(list, at)
		}
	}
	return list
}

// countTruth tells of each state of so many tests whether at least as many come out yes as a count.
func countTruth(many, count int) []bool {
	truth := make([]bool, power(2, many))
	for state := range truth {
		truth[state] = len(listOf(state)) >= count
	}
	return truth
}

// aheadOf is how many of some tests go ahead of one of them by the ratios for a kind of row, of equal ones the lesser tests.
func aheadOf(tests []impl.Test, left []int, at, row int) int {
	ahead := 0
	for _, other := range left {
		difference := ratioIn(tests[other], row) - ratioIn(tests[at], row)
		if difference < 0 || difference == 0 && other < at {
			ahead++
		}
	}
	return ahead
}

// meetingIn lists those of the tests that are left, in ascending order, that are of as many first ones by the ratios for yes as yes are needed, and by those for no as no are needed against it.
func meetingIn(tests []impl.Test, left []int, needed int) []int {
	against := len(left) - needed + 1
	return slices.DeleteFunc(slices.Clone(left), func(at int) bool {
		return aheadOf(tests, left, at, impl.RowOr) >= needed || aheadOf(tests, left, at, impl.RowAnd) >= against
	})
}

// countedIn lists the tests that are asked in a state until as many yes as a count are there, or so many no that it cannot be reached.
func countedIn(tests []impl.Test, count, state int) []int {
	var asked []int
	left, no := ascending(len(tests)), 0
	for yes := 0; yes < count && no <= len(tests)-count; {
		at := meetingIn(tests, left, count-yes)[0]
		asked = append(asked, at)
		left = slices.DeleteFunc(left, func(other int) bool { return other == at })
		if saysYes(state, at) {
			yes++
		} else {
			no++
		}
	}
	return asked
}

// countAverageIn is what these tests cost in all states, by their weights.
func countAverageIn(tests []impl.Test, count int) int {
	average := 0
	for state := range power(2, len(tests)) {
		weight := impl.WeightOf(tests, state)
		for _, at := range countedIn(tests, count, state) {
			average += weight * tests[at].Cost
		}
	}
	return average
}

// countWeights are the weights of just so many yes, from none on, by multiplying out what each test adds.
func countWeights(tests []impl.Test) []int {
	weights := []int{1}
	for _, test := range tests {
		longer := make([]int, len(weights)+1)
		for yes, weight := range weights {
			longer[yes] += weight * (6 - test.Chance)
			longer[yes+1] += weight * test.Chance
		}
		weights = longer
	}
	return weights
}

// meetingCounts are lists of tests of which both orders go against each other, or have equal ratios in one of them, or in both.
var meetingCounts = [][]impl.Test{
	// Both orders go against each other: what is likely to come out yes is dear for a no.
	{{Cost: 1, Chance: 5}, {Cost: 1, Chance: 1}, {Cost: 1, Chance: 3}}, {{Cost: 1, Chance: 1}, {Cost: 1, Chance: 2}, {Cost: 1, Chance: 3}, {Cost: 1, Chance: 4}, {Cost: 1, Chance: 5}}, {{Cost: 9, Chance: 5}, {Cost: 9, Chance: 1}, {Cost: 9, Chance: 4}, {Cost: 9, Chance: 2}},
	// Both go the same way: the tests differ in costs alone.
	{{Cost: 1, Chance: 3}, {Cost: 2, Chance: 3}, {Cost: 3, Chance: 3}, {Cost: 4, Chance: 3}, {Cost: 5, Chance: 3}}, {{Cost: 9, Chance: 2}, {Cost: 5, Chance: 2}, {Cost: 1, Chance: 2}},
	// Equal ratios to the chance of yes, in pairs or all, and any ratios to that of no.
	{{Cost: 2, Chance: 1}, {Cost: 4, Chance: 2}, {Cost: 3, Chance: 2}, {Cost: 6, Chance: 4}}, {{Cost: 1, Chance: 1}, {Cost: 2, Chance: 2}, {Cost: 3, Chance: 3}, {Cost: 4, Chance: 4}, {Cost: 5, Chance: 5}}, {{Cost: 3, Chance: 2}, {Cost: 6, Chance: 4}, {Cost: 1, Chance: 3}, {Cost: 9, Chance: 3}, {Cost: 2, Chance: 5}},
	// The same the other way: to the chance of no.
	{{Cost: 2, Chance: 5}, {Cost: 4, Chance: 4}, {Cost: 3, Chance: 4}, {Cost: 6, Chance: 2}}, {{Cost: 1, Chance: 5}, {Cost: 2, Chance: 4}, {Cost: 3, Chance: 3}, {Cost: 4, Chance: 2}, {Cost: 5, Chance: 1}}, {{Cost: 3, Chance: 4}, {Cost: 6, Chance: 2}, {Cost: 1, Chance: 3}, {Cost: 9, Chance: 3}, {Cost: 2, Chance: 1}},
	// Some tests have equal ratios to the one chance, and other ones to the other chance.
	{{Cost: 2, Chance: 1}, {Cost: 4, Chance: 2}, {Cost: 2, Chance: 5}, {Cost: 4, Chance: 4}, {Cost: 3, Chance: 3}}, {{Cost: 2, Chance: 2}, {Cost: 4, Chance: 4}, {Cost: 1, Chance: 4}}, {{Cost: 1, Chance: 1}, {Cost: 5, Chance: 5}, {Cost: 5, Chance: 1}, {Cost: 1, Chance: 5}},
	// Equal tests, in pairs or all.
	{{Cost: 3, Chance: 2}, {Cost: 3, Chance: 2}, {Cost: 3, Chance: 4}, {Cost: 3, Chance: 4}}, {{Cost: 2, Chance: 3}, {Cost: 7, Chance: 1}, {Cost: 2, Chance: 3}, {Cost: 7, Chance: 1}, {Cost: 2, Chance: 3}}, {{Cost: 9, Chance: 5}, {Cost: 9, Chance: 5}, {Cost: 9, Chance: 5}, {Cost: 9, Chance: 5}, {Cost: 9, Chance: 5}},
}

// countedTests are lists of tests for counts: those of meetingCounts in all orders, and rowTests.
var countedTests = sync.OnceValue(func() [][]impl.Test {
	var lists [][]impl.Test
	for _, meeting := range meetingCounts {
		for _, order := range ordersOf(len(meeting)) {
			var moved []impl.Test
			for _, at := range order {
				moved = append(moved, meeting[at])
			}
			lists = append(lists, moved)
		}
	}
	return append(lists, rowTests()...)
})

// eachCount calls visit for countedTests and all of their counts.
func eachCount(visit func(tests []impl.Test, count int)) {
	for _, tests := range countedTests() {
		for count := 1; count <= len(tests); count++ {
			visit(slices.Clone(tests), count)
		}
	}
}

// eachSomeCount calls visit for fewer tests and counts than eachCount does, for what takes long: for all of up to three tests, and of more for each seventh turn.
func eachSomeCount(visit func(tests []impl.Test, count int)) {
	turn := 0
	eachCount(func(tests []impl.Test, count int) {
		turn++
		if len(tests) <= 3 || turn%7 == 0 {
			visit(tests, count)
		}
	})
}

// eachLeft calls visit for countedTests, all sets of tests that may be left, and all yes that may be needed.
func eachLeft(visit func(tests []impl.Test, some, needed int)) {
	for _, tests := range countedTests() {
		for some := range power(2, len(tests)) {
			for needed := 1; needed <= len(listOf(some)); needed++ {
				visit(slices.Clone(tests), some, needed)
			}
		}
	}
}

// eachNoCount calls visit for what lacks just one of tests and a count of them.
func eachNoCount(visit func(tests []impl.Test, count int)) {
	for _, tests := range badTests() {
		for _, count := range []int{0, 1, 2, len(tests) - 1, len(tests), len(tests) + 1} {
			visit(tests, count)
		}
	}
	for many := 1; many <= 5; many++ {
		for _, count := range append(farNumbers(), 0, many+1, many+2, 6, 7) {
			for _, tests := range testLists(many, 3*many) {
				visit(tests, count)
			}
		}
	}
}

// eachNoLeft calls visit for what lacks just one of tests, a set of them, and the yes that are needed of these.
func eachNoLeft(visit func(tests []impl.Test, some, needed int)) {
	for _, tests := range badTests() {
		for _, some := range []int{0, 1, 2, power(2, min(len(tests), 7)) - 1} {
			for needed := range 7 {
				visit(tests, some, needed)
			}
		}
	}
	for many := 1; many <= 5; many++ {
		tests := turnedTests(many, 3*many)
		for _, some := range badStates(many) {
			for needed := -1; needed <= many+1; needed++ {
				visit(tests, some, needed)
			}
		}
		for some := range power(2, many) {
			left := len(listOf(some))
			for _, needed := range append(farNumbers(), 0, left+1, left+2, 6, 7) {
				visit(tests, some, needed)
			}
		}
	}
}
