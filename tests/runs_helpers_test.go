package tests

import (
	"slices"

	"loop.example/checksinorder/impl"
)

// testsCosting makes tests of costs, with chances that differ from each other.
func testsCosting(costs []int) []impl.Test {
	tests := make([]impl.Test, len(costs))
	for at, cost := range costs {
		tests[at] = impl.Test{Cost: cost, Chance: 1 + (costs[0]+3*at)%5}
	}
	return tests
}

// setCost is what the tests of a set cost together.
func setCost(tests []impl.Test, some int) int {
	return rowCost(tests, listOf(some))
}

// cheapestIn is the first one of all proofs in a state that none costs less than, and what it costs.
func cheapestIn(tests []impl.Test, truth []bool, state int) (int, int) {
	return firstLeast(proofsIn(truth, state), func(some int) int { return setCost(tests, some) })
}

// proofOfRowIn is what the cheapest proofs of a row cost in all states, by their weights: the cheapest test that ends it, or all tests if none does.
func proofOfRowIn(tests []impl.Test, row int) int {
	order := ascending(len(tests))
	slices.SortFunc(order, func(one, other int) int { return tests[one].Cost - tests[other].Cost })
	average, goesOn, left := 0, 1, power(6, len(tests))
	for _, at := range order {
		end := endOf(tests[at], row)
		left /= 6
		average += tests[at].Cost * goesOn * end * left
		goesOn *= 6 - end
	}
	return average + goesOn*impl.CostOf(tests)
}

// provedTerms are terms, as their marks stand, with some states: most of them have several least proofs there, of as many tests, or some of more and some of fewer.
var provedTerms = []struct {
	many   int
	signs  string
	states []int
}{
	{1, "a", []int{0, 1}}, {2, "ab&", []int{0, 1, 2, 3}}, {2, "ab|", []int{0, 1, 2, 3}}, {2, "ab!&a!b&|", []int{0, 2}},
	{3, "ab&c|", []int{0, 4, 7}}, {3, "bc&a|", []int{0, 1, 7}}, {3, "ac&b|", []int{0, 2, 7}}, {3, "ab&ab|c&|", []int{0, 1, 7}}, {3, "ab&a!c&|", []int{0, 2, 6, 7}},
	{4, "ab&cd&|", []int{0, 3, 15}}, {4, "ad&bc&|", []int{0, 15}}, {5, "ab&cd||ab|e|&", []int{0, 3, 28, 31}}, {5, "abcd&&&e|", []int{0, 15, 31}}, {5, "ab|c|de|&", []int{0, 31}},
}

// proved is a term for tests in a state.
type proved struct {
	tests []impl.Test
	term  []impl.Mark
	truth []bool
	state int
}

// eachProved calls visit for the terms of eachTested, those of edgeTerms in all states and the others in some, and for provedTerms by all costs of up to three tests, and by those of 1..3 of more.
func eachProved(visit func(p proved)) {
	turn := 0
	eachTested(func(tests []impl.Test, term []impl.Mark) {
		turn++
		truth := truthOf(len(tests), term)
		for state := range truth {
			if turn <= 4*len(edgeTerms) || (turn+state)%4 == 0 {
				visit(proved{tests, term, truth, state})
			}
		}
	})
	for _, several := range provedTerms {
		term, greatest := marksOf(several.signs), 9
		truth := truthOf(several.many, term)
		if several.many > 3 {
			greatest = 3
		}
		for _, costs := range rowsOf(several.many, 1, greatest) {
			for _, state := range several.states {
				visit(proved{testsCosting(costs), term, truth, state})
			}
		}
	}
}

// eachNoProved calls visit for what lacks just one of tests, a term for them, and a state of them.
func eachNoProved(visit func(tests []impl.Test, term []impl.Mark, state int)) {
	eachNoTested(func(tests []impl.Test, term []impl.Mark) {
		for _, state := range []int{0, 1, power(2, min(len(tests), 5)) - 1} {
			visit(tests, term, state)
		}
	})
	for many := 1; many <= 5; many++ {
		for _, state := range badStates(many) {
			for _, signs := range []string{"a", "aa!|", "aa!&"} {
				visit(equalTests(many, 2), marksOf(signs), state)
			}
		}
	}
}

// drawnRun is a run of so many states: which ones differs from turn to turn.
func drawnRun(many, length, turn int) []int {
	run := make([]int, length)
	for i := range run {
		turn = (1103515245*turn + 12345) % power(2, 31)
		run[i] = turn / power(2, 16) % power(2, many)
	}
	return run
}

// ran is a plan with a run of states.
type ran struct {
	planned
	run []int
}

// runCostIn is what the plan costs in all states of the run, together.
func (r ran) runCostIn() int {
	cost := 0
	for _, state := range r.run {
		cost += r.way.costBy(r.tests, state)
	}
	return cost
}

// regretIn is what the plan costs in them more than the cheapest proofs.
func (r ran) regretIn() int {
	regret := r.runCostIn()
	for _, state := range r.run {
		_, cost := cheapestIn(r.tests, r.truth, state)
		regret -= cost
	}
	return regret
}

// eachRun calls visit for the plans of eachPlanned, each with a drawn run of from no state to MaxRuns, and with a state that comes once, and as often as may be.
func eachRun(visit func(r ran)) {
	turn := 0
	eachPlanned(func(p planned) {
		turn++
		many := len(p.tests)
		visit(ran{p, drawnRun(many, turn%13, turn)})
		one := drawnRun(many, 1, 7*turn)
		visit(ran{p, one})
		visit(ran{p, slices.Repeat(one, 12)})
	})
}

// noRuns are rows that are no runs of states of so many tests: too long, and with a number that is no state.
func noRuns(many int) [][]int {
	last := power(2, many) - 1
	var list [][]int
	for _, length := range []int{13, 14, 24, 25, 1000} {
		list = append(list, make([]int, length), slices.Repeat([]int{last}, length), drawnRun(many, length, length))
	}
	for _, length := range []int{1, 2, 3, 11, 12} {
		for place := range length {
			for _, state := range badStates(many) {
				run := drawnRun(many, length, 5*length+place)
				run[place] = state
				list = append(list, run)
			}
		}
	}
	return list
}

// eachNotRun calls visit for what lacks just one of tests, a plan of a term for them, and a run of their states.
func eachNotRun(visit func(tests []impl.Test, term []impl.Mark, plan []impl.Choice, run []int)) {
	eachNoPlanned(func(tests []impl.Test, term []impl.Mark, plan []impl.Choice) {
		for _, run := range [][]int{nil, {}, {0}, {0, 1}, {1, 0, 1}, make([]int, 12)} {
			visit(tests, term, plan, run)
		}
	})
	for many := 1; many <= 5; many++ {
		for _, run := range noRuns(many) {
			visit(equalTests(many, 2), marksOf("a"), choicesOf(choiceRows{{0, -1, -1}}), run)
			visit(equalTests(many, 2), marksOf("aa!|"), nil, run)
		}
	}
}
