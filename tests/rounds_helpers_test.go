package tests

import (
	"slices"
	"sync"

	"loop.example/checksinorder/impl"
)

// askedRounds lists the rounds that are asked in a state, up to the first one of which a test comes out no.
func askedRounds(rounds [][]int, state int) [][]int {
	for i, round := range rounds {
		if slices.ContainsFunc(round, func(at int) bool { return !saysYes(state, at) }) {
			return rounds[:i+1]
		}
	}
	return rounds
}

// roundAverageIn is what rounds cost in all states, by their weights.
func roundAverageIn(tests []impl.Test, rounds [][]int, fee int) int {
	average := 0
	for state := range power(2, len(tests)) {
		cost := 0
		for _, round := range askedRounds(rounds, state) {
			cost += fee + rowCost(tests, round)
		}
		average += impl.WeightOf(tests, state) * cost
	}
	return average
}

// rowCost is what the tests of a row cost together.
func rowCost(tests []impl.Test, row []int) int {
	cost := 0
	for _, at := range row {
		cost += tests[at].Cost
	}
	return cost
}

// joiningIn is by how much more rounds cost in all states, by their weights, if the one at a place and the next one are one: what is asked in vain, less the fees that are saved.
func joiningIn(tests []impl.Test, rounds [][]int, at, fee int) int {
	more := 0
	for state := range power(2, len(tests)) {
		switch weight := impl.WeightOf(tests, state); len(askedRounds(rounds[:at+2], state)) {
		case at + 1:
			more += weight * rowCost(tests, rounds[at+1])
		case at + 2:
			more -= weight * fee
		}
	}
	return more
}

// setsOf has the set of the tests of each row.
func setsOf(rows [][]int) []int {
	var sets []int
	for _, row := range rows {
		sets = append(sets, setOf(row))
	}
	return sets
}

// allRounds are the rounds of each number of tests, the tests of each round in ascending order; of two of them the one with the lesser set, where they differ first, is ahead.
var allRounds = sync.OnceValue(func() [6][][][]int {
	var lists [6][][][]int
	for many := 1; many <= 5; many++ {
		lists[many] = slices.DeleteFunc(slices.Clone(groupsOf(many)), func(rounds [][]int) bool {
			return slices.ContainsFunc(rounds, func(round []int) bool { return !slices.IsSorted(round) })
		})
		slices.SortFunc(lists[many], func(first, second [][]int) int { return slices.Compare(setsOf(first), setsOf(second)) })
	}
	return lists
})

// bestRoundsIn are the first ones of allRounds that none cost less than, and what they cost.
func bestRoundsIn(tests []impl.Test, fee int) ([][]int, int) {
	return firstLeast(allRounds()[len(tests)], func(rounds [][]int) int { return roundAverageIn(tests, rounds, fee) })
}

// priced are tests, and a fee for each round of them.
type priced struct {
	tests []impl.Test
	fee   int
}

// edgeFees are costs and chances, and a fee, with what is easily forgotten.
var edgeFees = []struct {
	costsAndChances [][2]int
	fee             int
}{
	// One test alone, with no fee, and with the greatest one.
	{[][2]int{{1, 1}}, 0}, {[][2]int{{9, 5}}, 0}, {[][2]int{{1, 5}}, 20}, {[][2]int{{9, 1}}, 20},
	// No fee: equal tests, and equal ratios.
	{[][2]int{{4, 2}, {3, 3}}, 0}, {[][2]int{{5, 2}, {8, 1}, {8, 1}}, 0}, {[][2]int{{1, 5}, {2, 4}, {3, 3}, {4, 2}, {5, 1}}, 0}, {[][2]int{{9, 5}, {9, 5}, {9, 5}, {9, 5}, {9, 5}}, 0}, {[][2]int{{1, 5}, {1, 5}, {1, 5}, {1, 5}, {1, 5}}, 0},
	// The greatest fee: all in one round, in some rounds, or each in its own one.
	{[][2]int{{1, 5}, {1, 5}, {1, 5}, {1, 5}, {1, 5}}, 20}, {[][2]int{{9, 5}, {9, 5}, {9, 5}, {9, 5}, {9, 5}}, 20}, {[][2]int{{9, 1}, {9, 1}, {9, 1}, {9, 1}, {9, 1}}, 20}, {[][2]int{{9, 4}, {1, 1}, {5, 3}, {2, 5}, {9, 1}}, 20},
	// Two tests in one round, or each in its own one: the first one, or the second one, goes first.
	{[][2]int{{7, 2}, {9, 2}}, 18}, {[][2]int{{6, 2}, {8, 5}}, 16}, {[][2]int{{3, 5}, {5, 1}}, 15}, {[][2]int{{8, 3}, {4, 3}}, 8}, {[][2]int{{4, 1}, {4, 1}}, 9}, {[][2]int{{9, 3}, {9, 3}, {9, 3}}, 9}, {[][2]int{{9, 3}, {9, 3}, {9, 3}, {9, 3}}, 9}, {[][2]int{{6, 4}, {6, 4}, {6, 4}, {6, 4}, {6, 4}}, 3},
	// A first round of more tests, but of a lesser set, and one of fewer tests.
	{[][2]int{{1, 3}, {2, 2}, {3, 1}}, 8}, {[][2]int{{1, 4}, {2, 3}, {3, 2}}, 4}, {[][2]int{{3, 3}, {5, 2}, {8, 1}}, 8}, {[][2]int{{4, 3}, {2, 4}, {8, 2}, {7, 1}, {6, 2}}, 8}, {[][2]int{{2, 4}, {2, 4}, {8, 1}, {8, 5}, {2, 5}}, 4},
	// Fewer rounds begin with a lesser set than more ones do, or the other way.
	{[][2]int{{3, 3}, {5, 1}, {2, 2}}, 9}, {[][2]int{{6, 1}, {4, 5}, {1, 3}}, 6}, {[][2]int{{6, 3}, {9, 1}, {4, 2}}, 15}, {[][2]int{{2, 2}, {9, 2}, {5, 3}, {3, 5}}, 5}, {[][2]int{{7, 1}, {9, 3}, {7, 2}, {4, 3}, {3, 3}}, 16}, {[][2]int{{7, 4}, {3, 2}, {5, 2}, {3, 3}, {6, 4}}, 20}, {[][2]int{{9, 5}, {5, 3}, {8, 5}, {2, 2}, {3, 4}}, 14},
	{[][2]int{{1, 2}, {7, 2}, {2, 1}}, 5}, {[][2]int{{8, 4}, {3, 3}, {4, 4}}, 16}, {[][2]int{{8, 2}, {1, 4}, {7, 2}, {1, 3}}, 14}, {[][2]int{{2, 2}, {2, 1}, {4, 5}, {7, 1}}, 10}, {[][2]int{{7, 5}, {1, 2}, {1, 5}, {2, 3}, {8, 4}}, 5}, {[][2]int{{2, 3}, {7, 2}, {3, 4}, {7, 2}, {7, 3}}, 18},
	// Several best rounds behind the same first one, or behind the same first and second ones.
	{[][2]int{{1, 1}, {5, 2}, {8, 2}}, 16}, {[][2]int{{6, 1}, {9, 3}, {9, 3}, {5, 4}}, 7}, {[][2]int{{1, 4}, {7, 2}, {9, 1}, {1, 1}}, 6}, {[][2]int{{3, 1}, {7, 3}, {2, 5}, {9, 2}}, 17}, {[][2]int{{8, 2}, {9, 2}, {1, 2}, {8, 2}, {6, 1}}, 16}, {[][2]int{{6, 3}, {3, 5}, {8, 2}, {3, 4}, {8, 1}}, 2},
	{[][2]int{{8, 3}, {6, 2}, {8, 4}, {9, 2}}, 8}, {[][2]int{{8, 2}, {6, 5}, {5, 1}, {7, 3}}, 6}, {[][2]int{{3, 3}, {8, 1}, {6, 5}, {4, 1}, {8, 3}}, 6}, {[][2]int{{4, 2}, {3, 2}, {4, 2}, {3, 2}, {5, 1}}, 8}, {[][2]int{{8, 2}, {1, 3}, {7, 4}, {8, 3}, {7, 4}}, 1},
}

// feesIn are no fee, the greatest one, and one in between that differs from turn to turn.
func feesIn(turn int) []int {
	return []int{0, 20, 1 + turn%19}
}

// badFees are fees that may not be.
func badFees() []int {
	return append(farNumbers(), 21, 22, 26)
}

// movedFees are edgeFees in orders of their tests: those of up to four tests in all of them, and those of five in each seventh one.
var movedFees = sync.OnceValue(func() []priced {
	var list []priced
	for _, edge := range edgeFees {
		for i, order := range ordersOf(len(edge.costsAndChances)) {
			if len(order) == 5 && i%7 != 0 {
				continue
			}
			tests := make([]impl.Test, len(order))
			for place, at := range order {
				tests[place] = impl.Test{Cost: edge.costsAndChances[at][0], Chance: edge.costsAndChances[at][1]}
			}
			list = append(list, priced{tests, edge.fee})
		}
	}
	return list
})

// sampledTests are all of one and of two tests, and some of more.
var sampledTests = sync.OnceValue(func() [][]impl.Test {
	var lists [][]impl.Test
	for i, step := range []int{1, 1, 101, 6007, 300007} {
		for number := 0; number < power(45, 1+i); number += step {
			lists = append(lists, numberedTests(1+i, number))
		}
	}
	return lists
})

// pricedTests are movedFees, one test alone with each fee, and sampledTests with feesIn.
var pricedTests = sync.OnceValue(func() []priced {
	list := slices.Clone(movedFees())
	for turn, tests := range sampledTests() {
		fees := feesIn(turn)
		if len(tests) == 1 {
			fees = ascending(21)
		}
		for _, fee := range fees {
			list = append(list, priced{tests, fee})
		}
	}
	return list
})

// eachPriced calls visit for pricedTests.
func eachPriced(visit func(tests []impl.Test, fee int)) {
	for _, p := range pricedTests() {
		visit(slices.Clone(p.tests), p.fee)
	}
}

// eachOfAllFees calls visit for the tests of movedFees, and for sampledTests, with what best rounds cost for each fee, and how many rounds these are.
func eachOfAllFees(visit func(tests []impl.Test, averages, howMany []int)) {
	lists := slices.Clone(sampledTests())
	for _, p := range movedFees() {
		lists = append(lists, p.tests)
	}
	for _, tests := range lists {
		var averages, howMany []int
		for fee := 0; fee <= 20; fee++ {
			rounds, average := impl.BestRounds(tests, fee)
			averages, howMany = append(averages, average), append(howMany, len(rounds))
		}
		visit(tests, averages, howMany)
	}
}

// eachRounded calls visit for groupedTests with feesIn: rounds are groups.
func eachRounded(visit func(tests []impl.Test, rounds [][]int, fee int)) {
	turn := 0
	eachGrouped(func(tests []impl.Test, rounds [][]int) {
		turn++
		for _, fee := range feesIn(turn) {
			visit(tests, rounds, fee)
		}
	})
}

// eachJoint calls visit for eachRounded and each place of a round behind which there is a next one.
func eachJoint(visit func(tests []impl.Test, rounds [][]int, fee, at int)) {
	eachRounded(func(tests []impl.Test, rounds [][]int, fee int) {
		for at := range len(rounds) - 1 {
			visit(tests, rounds, fee, at)
		}
	})
}
