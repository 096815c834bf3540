package tests

import (
	"slices"
	"testing"

	"loop.example/checksinorder/impl"
)

func TestConstantOfRuns(t *testing.T) {
	if impl.MaxRuns != 12 {
		t.Fatal(impl.MaxRuns)
	}
}

// Promise 81.

// someProofs are cheapest proofs of terms, as their marks stand, in a state, by costs; and what they cost.
var someProofs = []struct {
	costs       []int
	signs       string
	state       int
	proof, cost int
}{
	// One test.
	{[]int{1}, "a", 0, 1, 1}, {[]int{1}, "a", 1, 1, 1}, {[]int{9}, "a!", 0, 1, 9}, {[]int{9}, "a!!", 1, 1, 9},
	// Nothing need be asked.
	{[]int{1}, "aa!|", 0, 0, 0}, {[]int{9}, "aa!&", 1, 0, 0}, {[]int{9, 1, 5, 1, 9}, "abcdee!|||||", 17, 0, 0}, {[]int{1, 1, 1, 1, 1}, "ee!&", 31, 0, 0},
	// Just some tests are read, or matter, and be they the dearest ones.
	{[]int{3, 9, 1}, "b", 5, 2, 9}, {[]int{1, 1, 1, 1, 9}, "e!", 0, 16, 9}, {[]int{1, 7}, "aa!&b|", 3, 2, 7}, {[]int{9, 1}, "ab|a&", 3, 1, 9}, {[]int{1, 2, 3, 4, 5}, "bd&", 21, 2, 2}, {[]int{1, 5, 3, 4, 5}, "bd&", 21, 8, 4}, {[]int{1, 2, 3, 4, 5}, "bd&", 31, 10, 6},
	// The cheaper one of both, or both.
	{[]int{2, 5}, "ab&", 0, 1, 2}, {[]int{5, 2}, "ab&", 0, 2, 2}, {[]int{2, 5}, "ab&", 1, 2, 5}, {[]int{5, 2}, "ab&", 3, 3, 7}, {[]int{1, 9}, "ab|", 3, 1, 1}, {[]int{9, 1}, "ab|", 3, 2, 1}, {[]int{1, 9}, "ab|", 2, 2, 9}, {[]int{9, 9}, "ab|", 0, 3, 18}, {[]int{1, 1}, "ab!&a!b&|", 2, 3, 2},
	// Of equal costs the least number.
	{[]int{4, 4}, "ab&", 0, 1, 4}, {[]int{4, 4, 4}, "ab|c|", 7, 1, 4}, {[]int{4, 4, 4}, "ab|c|", 6, 2, 4}, {[]int{9, 4, 4}, "ab|c|", 7, 2, 4}, {[]int{9, 9, 9, 9, 9}, "abcde||||", 24, 8, 9}, {[]int{9, 9, 9, 9, 9}, "abcde&&&&", 0, 1, 9}, {[]int{9, 9, 9, 9, 9}, "abcde&&&&", 31, 31, 45}, {[]int{5, 5, 5}, "ab&ab|c&|", 7, 3, 10}, {[]int{5, 3, 3}, "ab&ab|c&|", 0, 6, 6}, {[]int{3, 5, 3}, "ab&ab|c&|", 0, 5, 6}, {[]int{3, 3, 2}, "ab&ab|c&|", 7, 5, 5},
	// Two cost less than one, as much, or more: and be the number of two the lesser one, or that of one.
	{[]int{1, 1, 9}, "ab&c|", 7, 3, 2}, {[]int{1, 1, 3}, "ab&c|", 7, 3, 2}, {[]int{1, 1, 2}, "ab&c|", 7, 3, 2}, {[]int{1, 1, 1}, "ab&c|", 7, 4, 1}, {[]int{9, 1, 1}, "bc&a|", 7, 6, 2}, {[]int{3, 1, 1}, "bc&a|", 7, 6, 2}, {[]int{2, 1, 1}, "bc&a|", 7, 1, 2}, {[]int{1, 3, 1}, "ac&b|", 7, 5, 2}, {[]int{1, 2, 1}, "ac&b|", 7, 2, 2},
	// Four against one.
	{[]int{1, 1, 1, 1, 9}, "abcd&&&e|", 31, 15, 4}, {[]int{1, 1, 1, 1, 5}, "abcd&&&e|", 31, 15, 4}, {[]int{1, 1, 1, 1, 4}, "abcd&&&e|", 31, 15, 4}, {[]int{1, 1, 1, 1, 3}, "abcd&&&e|", 31, 16, 3}, {[]int{4, 1, 1, 1, 1}, "bcde&&&a|", 31, 1, 4}, {[]int{5, 1, 1, 1, 1}, "bcde&&&a|", 31, 30, 4},
	// Many least proofs: 5, 6, 9 and 10; 6 and 9; and 3, 5, 6, 9, 10, 20 and 24.
	{[]int{1, 2, 3, 4}, "ab&cd&|", 0, 5, 4}, {[]int{2, 1, 3, 4}, "ab&cd&|", 0, 6, 4}, {[]int{1, 2, 4, 3}, "ab&cd&|", 0, 9, 4}, {[]int{2, 1, 4, 3}, "ab&cd&|", 0, 10, 4}, {[]int{3, 3, 3, 3}, "ab&cd&|", 0, 5, 6}, {[]int{4, 3, 3, 3}, "ab&cd&|", 0, 6, 6}, {[]int{3, 3, 4, 3}, "ab&cd&|", 0, 9, 6},
	{[]int{1, 2, 2, 3}, "ad&bc&|", 15, 6, 4}, {[]int{2, 2, 2, 1}, "ad&bc&|", 15, 9, 3},
	{[]int{1, 1, 9, 9, 9}, "ab&cd||ab|e|&", 31, 3, 2}, {[]int{1, 9, 1, 9, 9}, "ab&cd||ab|e|&", 31, 5, 2}, {[]int{9, 1, 1, 9, 9}, "ab&cd||ab|e|&", 31, 6, 2}, {[]int{1, 9, 9, 1, 9}, "ab&cd||ab|e|&", 31, 9, 2}, {[]int{9, 1, 9, 1, 9}, "ab&cd||ab|e|&", 31, 10, 2}, {[]int{9, 9, 1, 9, 1}, "ab&cd||ab|e|&", 31, 20, 2}, {[]int{9, 9, 9, 1, 1}, "ab&cd||ab|e|&", 31, 24, 2},
	{[]int{7, 7, 7, 7, 7}, "ab&cd||ab|e|&", 31, 3, 14}, {[]int{5, 5, 1, 1, 1}, "ab&cd||ab|e|&", 31, 20, 2}, {[]int{5, 1, 1, 1, 1}, "ab&cd||ab|e|&", 31, 6, 2}, {[]int{9, 9, 5, 4, 1}, "ab&cd||ab|e|&", 31, 24, 5},
	// What the first test says may be left out.
	{[]int{9, 1, 1}, "ab&a!c&|", 7, 6, 2}, {[]int{1, 9, 9}, "ab&a!c&|", 7, 3, 10}, {[]int{5, 5, 5}, "ab&a!c&|", 7, 3, 10}, {[]int{9, 1, 1}, "ab&a!c&|", 3, 3, 10}, {[]int{2, 1, 1}, "ab&a!c&|", 0, 6, 2}, {[]int{1, 1, 1}, "ab&a!c&|", 6, 5, 2},
}

func TestSomeCheapestProofs(t *testing.T) {
	for _, some := range someProofs {
		tests, term := testsCosting(some.costs), marksOf(some.signs)
		proof, cost := impl.CheapestProof(tests, term, some.state), impl.ProofCost(tests, term, some.state)
		if proof != some.proof || cost != some.cost {
			t.Fatal(some, proof, cost)
		}
	}
}

func TestTheCheapestProofIsTheFirstOfAllThatCostLeast(t *testing.T) {
	eachProved(func(p proved) {
		want, _ := cheapestIn(p.tests, p.truth, p.state)
		if got := impl.CheapestProof(p.tests, p.term, p.state); got != want {
			t.Fatal(p.tests, p.term, p.state, got, want)
		}
	})
}

func TestNoProofIsCheaper(t *testing.T) {
	several, equal, longer := 0, 0, 0
	eachProved(func(p proved) {
		many := len(p.tests)
		least := impl.LeastProofs(many, p.term, p.state)
		got := impl.CheapestProof(p.tests, p.term, p.state)
		if !slices.Contains(least, got) {
			t.Fatal("no least proof", p.tests, p.term, p.state, got, least)
		}
		for some := range power(2, many) {
			if setCost(p.tests, some) < setCost(p.tests, got) && impl.ProofOk(many, p.term, p.state, some) {
				t.Fatal("cheaper", p.tests, p.term, p.state, got, some)
			}
		}
		for _, other := range least {
			switch {
			case other == got:
			case setCost(p.tests, other) == setCost(p.tests, got):
				equal++
				if other < got {
					t.Fatal("as cheap", p.tests, p.term, p.state, got, other)
				}
			case len(listOf(other)) < len(listOf(got)):
				longer++
			}
		}
		if len(least) > 3 {
			several++
		}
	})
	if several < 1000 || equal < 1000 || longer < 300 {
		t.Fatal("too few with many proofs, with others as cheap, or with shorter ones", several, equal, longer)
	}
}

func TestChancesDoNotMatterForAProof(t *testing.T) {
	eachProved(func(p proved) {
		others := impl.OtherTests(p.tests)
		others[0].Chance = 1 + others[0].Chance%5
		proof, cost := impl.CheapestProof(p.tests, p.term, p.state), impl.ProofCost(p.tests, p.term, p.state)
		if other := impl.CheapestProof(others, p.term, p.state); other != proof || impl.ProofCost(others, p.term, p.state) != cost {
			t.Fatal(p.tests, p.term, p.state, proof, cost, other)
		}
	})
}

func TestCheapestProofOfOthers(t *testing.T) {
	eachNoProved(func(tests []impl.Test, term []impl.Mark, state int) {
		if got := impl.CheapestProof(tests, term, state); got != -1 {
			t.Fatal(tests, term, state, got)
		}
	})
}

// Promise 82.

func TestAProofCostsWhatItsTestsCost(t *testing.T) {
	eachProved(func(p proved) {
		got := impl.ProofCost(p.tests, p.term, p.state)
		if _, want := cheapestIn(p.tests, p.truth, p.state); got != want {
			t.Fatal(p.tests, p.term, p.state, got, want)
		}
		if proof := impl.CheapestProof(p.tests, p.term, p.state); got != setCost(p.tests, proof) {
			t.Fatal("not what its tests cost", p.tests, p.term, p.state, got, proof)
		}
	})
}

func TestProofsOfOppositesCostTheSame(t *testing.T) {
	eachProved(func(p proved) {
		many := len(p.tests)
		proof, cost := impl.CheapestProof(p.tests, p.term, p.state), impl.ProofCost(p.tests, p.term, p.state)
		dual, opposite := impl.DualTerm(many, p.term), power(2, many)-1-p.state
		if impl.CheapestProof(p.tests, dual, opposite) != proof || impl.ProofCost(p.tests, dual, opposite) != cost {
			t.Fatal("of the dual term", p.tests, p.term, p.state, proof, cost)
		}
		if not, fits := withNot(p.term); fits && (impl.CheapestProof(p.tests, not, p.state) != proof || impl.ProofCost(p.tests, not, p.state) != cost) {
			t.Fatal("of what is not so", p.tests, p.term, p.state, proof, cost)
		}
	})
}

func TestProofsCostNothingJustIfNothingNeedBeAsked(t *testing.T) {
	eachProved(func(p proved) {
		many := len(p.tests)
		isAlwaysSo := impl.IdleTests(many, p.term) == power(2, many)-1
		proof, cost := impl.CheapestProof(p.tests, p.term, p.state), impl.ProofCost(p.tests, p.term, p.state)
		if (cost == 0) != isAlwaysSo || (proof == 0) != isAlwaysSo || cost < 0 || cost > impl.CostOf(p.tests) {
			t.Fatal(p.tests, p.term, p.state, proof, cost)
		}
	})
}

func TestNothingIsProvedOfWhatIsAlwaysSo(t *testing.T) {
	for many := 1; many <= 5; many++ {
		for turn, term := range alwaysSo(many) {
			tests := turnedTests(many, turn)
			for state := range power(2, many) {
				proof, cost := impl.CheapestProof(tests, term, state), impl.ProofCost(tests, term, state)
				if regret := impl.RegretOf(tests, term, nil, []int{state}); proof != 0 || cost != 0 || regret != 0 {
					t.Fatal(tests, term, state, proof, cost, regret)
				}
			}
			if average := impl.AverageProof(tests, term); average != 0 {
				t.Fatal(tests, term, average)
			}
		}
	}
}

func TestProofCostOfOthers(t *testing.T) {
	eachNoProved(func(tests []impl.Test, term []impl.Mark, state int) {
		if got := impl.ProofCost(tests, term, state); got != -1 {
			t.Fatal(tests, term, state, got)
		}
	})
}

// Promise 83.

func TestWhatSomeProofsCostOnAverage(t *testing.T) {
	tests := []impl.Test{{Cost: 2, Chance: 3}, {Cost: 5, Chance: 1}, {Cost: 1, Chance: 2}}
	dear := []impl.Test{{Cost: 9, Chance: 1}, {Cost: 1, Chance: 5}}
	for _, average := range []struct {
		tests []impl.Test
		signs string
		want  int
	}{
		{tests, "ab|c!&", 780}, {tests, "a", 216 * 2}, {tests, "b!", 216 * 5}, {tests, "c", 216}, {tests, "aa!|", 0}, {tests, "cc!&", 0}, {tests, "aa!&b|", 216 * 5},
		{tests, "ab&", 6 * (3*7 + 15*2 + 3*2 + 15*5)}, {tests, "ab|", 6 * (15*7 + 15*2 + 3*2 + 3*5)}, {tests, "ab!&a!b&|", 216 * 7},
		{tests, "ab&ab|c&|", 6*3 + 12*7 + 30*3 + 6*6 + 60*3 + 30*7 + 12*3 + 60*6}, {tests, "ab&a!c&|", 6*6 + 12*7 + 30*7 + 60*6 + 6*3 + 12*3 + 30*3 + 60*3},
		{dear, "ab&", 5*10 + 1 + 25*9 + 5}, {dear, "ab|", 5*10 + 9 + 25 + 5}, {dear, "ab!&a!b&|", 360}, {dear, "bb!&", 0},
		{equalTests(1, 3), "a", 54}, {equalTests(5, 1), "e!", 7776 * 9}, {equalTests(5, 1), "abcde&&&&", 7775*9 + 45}, {equalTests(5, 5), "abcde&&&&", 4651*9 + 3125*45}, {onesOf(5), "abcde||||", 31*243 + 5*243},
	} {
		if got := impl.AverageProof(average.tests, marksOf(average.signs)); got != average.want {
			t.Fatal(average, got)
		}
	}
}

func TestAveragesOfProofsAreSumsOverStates(t *testing.T) {
	eachTested(func(tests []impl.Test, term []impl.Mark) {
		truth, want, sum := truthOf(len(tests), term), 0, 0
		for state := range truth {
			weight := impl.WeightOf(tests, state)
			_, cost := cheapestIn(tests, truth, state)
			want += weight * cost
			sum += weight * impl.ProofCost(tests, term, state)
		}
		if got := impl.AverageProof(tests, term); got != want || got != sum {
			t.Fatal(tests, term, got, want, sum)
		}
	})
}

func TestNoPlanCostsLessThanProofs(t *testing.T) {
	less := 0
	eachTested(func(tests []impl.Test, term []impl.Mark) {
		got, best := impl.AverageProof(tests, term), impl.BestAverage(tests, term)
		if got < 0 || got > best {
			t.Fatal(tests, term, got, best)
		}
		if other := impl.AverageProof(impl.OtherTests(tests), impl.DualTerm(len(tests), term)); other != got {
			t.Fatal("of the dual term by the other tests", tests, term, got, other)
		}
		if got < best {
			less++
		}
	})
	if less < 1000 {
		t.Fatal("too few for which proofs cost less", less)
	}
}

func TestOfARowTheCheapestTestThatEndsItIsTheProof(t *testing.T) {
	turn := 0
	eachRow(func(tests []impl.Test, row int) {
		turn++
		if len(tests) > 2 && turn%3 != 0 {
			return
		}
		if got, want := impl.AverageProof(tests, rowOf(len(tests), row)), proofOfRowIn(tests, row); got != want {
			t.Fatal(tests, row, got, want)
		}
	})
}

func TestAverageProofOfOthers(t *testing.T) {
	eachNoTested(func(tests []impl.Test, term []impl.Mark) {
		if got := impl.AverageProof(tests, term); got != -1 {
			t.Fatal(tests, term, got)
		}
	})
}

// Promise 84.

// someRuns are runs of plans for terms, as their marks stand, of the tests 2/3, 5/1 and 1/2, and what they cost; and their regrets.
var someRuns = []struct {
	signs        string
	rows         choiceRows
	run          []int
	cost, regret int
}{
	// No state, one, and more.
	{"ab|c!&", choiceRows{{2, 1, -1}, {0, 2, -1}, {1, -1, -1}}, nil, 0, 0}, {"ab|c!&", choiceRows{{2, 1, -1}, {0, 2, -1}, {1, -1, -1}}, []int{}, 0, 0}, {"ab|c!&", choiceRows{{2, 1, -1}, {0, 2, -1}, {1, -1, -1}}, []int{0}, 8, 1}, {"ab|c!&", choiceRows{{2, 1, -1}, {0, 2, -1}, {1, -1, -1}}, []int{2}, 8, 2}, {"ab|c!&", choiceRows{{2, 1, -1}, {0, 2, -1}, {1, -1, -1}}, []int{4}, 1, 0},
	{"ab|c!&", choiceRows{{2, 1, -1}, {0, 2, -1}, {1, -1, -1}}, []int{0, 3, 4}, 12, 1}, {"ab|c!&", choiceRows{{2, 1, -1}, {0, 2, -1}, {1, -1, -1}}, []int{0, 1, 2, 3, 4, 5, 6, 7}, 26, 3}, {"ab|c!&", choiceRows{{2, 1, -1}, {0, 2, -1}, {1, -1, -1}}, []int{7, 7, 7, 7, 7, 7, 7, 7, 7, 7, 7, 7}, 12, 0},
	// The same state several times.
	{"ab|c!&", choiceRows{{2, 1, -1}, {0, 2, -1}, {1, -1, -1}}, []int{0, 0}, 16, 2}, {"ab|c!&", choiceRows{{2, 1, -1}, {0, 2, -1}, {1, -1, -1}}, []int{2, 4, 2, 4, 2}, 26, 6}, {"ab|c!&", choiceRows{{2, 1, -1}, {0, 2, -1}, {1, -1, -1}}, []int{2, 2, 2, 2, 2, 2, 2, 2, 2, 2, 2, 2}, 96, 24},
	// One test alone is the cheapest proof, or is asked behind others.
	{"a", choiceRows{{0, -1, -1}}, []int{0, 1, 6, 7}, 8, 0}, {"b!", choiceRows{{1, -1, -1}}, []int{5, 2}, 10, 0}, {"b", choiceRows{{0, 1, 2}, {1, -1, -1}, {1, -1, -1}}, []int{0, 7, 3}, 21, 6}, {"c", choiceRows{{1, 1, 2}, {2, -1, -1}, {2, -1, -1}}, []int{0, 2}, 12, 10},
	// The dearer one of two is asked first, and would have been enough, or was not needed.
	{"ab|", choiceRows{{1, 1, -1}, {0, -1, -1}}, []int{0}, 7, 0}, {"ab|", choiceRows{{1, 1, -1}, {0, -1, -1}}, []int{1}, 7, 5}, {"ab|", choiceRows{{1, 1, -1}, {0, -1, -1}}, []int{2}, 5, 0}, {"ab|", choiceRows{{1, 1, -1}, {0, -1, -1}}, []int{3}, 5, 3}, {"ab|", choiceRows{{1, 1, -1}, {0, -1, -1}}, []int{3, 1, 2, 0}, 24, 8},
	// Plans without choices.
	{"aa!|", nil, nil, 0, 0}, {"aa!|", nil, []int{7}, 0, 0}, {"cc!&", choiceRows{}, []int{0, 1, 2, 3, 4, 5, 6, 7, 0, 1, 2, 3}, 0, 0},
}

func TestWhatSomeRunsCost(t *testing.T) {
	tests := []impl.Test{{Cost: 2, Chance: 3}, {Cost: 5, Chance: 1}, {Cost: 1, Chance: 2}}
	for _, some := range someRuns {
		term, plan := marksOf(some.signs), choicesOf(some.rows)
		cost, regret := impl.RunCost(tests, term, plan, some.run), impl.RegretOf(tests, term, plan, some.run)
		if cost != some.cost || regret != some.regret {
			t.Fatal(some, cost, regret)
		}
	}
}

func TestARunCostsWhatThePlanCostsInItsStates(t *testing.T) {
	eachRun(func(r ran) {
		if got, want := impl.RunCost(r.tests, r.term, r.plan, r.run), r.runCostIn(); got != want {
			t.Fatal(r.tests, r.term, r.plan, r.run, got, want)
		}
	})
}

func TestRunsCostTheSameInAnyOrder(t *testing.T) {
	eachRun(func(r ran) {
		cost := impl.RunCost(r.tests, r.term, r.plan, r.run)
		if back := impl.RunCost(r.tests, r.term, r.plan, reversed(r.run)); back != cost {
			t.Fatal("from the last state on", r.tests, r.term, r.plan, r.run, cost, back)
		}
		for at := range len(r.run) + 1 {
			first, second := impl.RunCost(r.tests, r.term, r.plan, r.run[:at]), impl.RunCost(r.tests, r.term, r.plan, r.run[at:])
			if first < 0 || second < 0 || first+second != cost {
				t.Fatal("in two parts", r.tests, r.term, r.plan, r.run, at, cost, first, second)
			}
		}
	})
}

func TestAllStatesWeighedAreTheAverageOfThePlan(t *testing.T) {
	eachPlanned(func(p planned) {
		average := 0
		for state := range p.truth {
			average += impl.WeightOf(p.tests, state) * impl.RunCost(p.tests, p.term, p.plan, []int{state})
		}
		if want := impl.AverageBy(p.tests, p.term, p.plan); average != want {
			t.Fatal(p.tests, p.term, p.plan, average, want)
		}
	})
}

func TestARunOfNoStateCostsNothing(t *testing.T) {
	eachPlanned(func(p planned) {
		for _, run := range [][]int{nil, {}} {
			cost, regret := impl.RunCost(p.tests, p.term, p.plan, run), impl.RegretOf(p.tests, p.term, p.plan, run)
			if cost != 0 || regret != 0 {
				t.Fatal(p.tests, p.term, p.plan, cost, regret)
			}
		}
	})
}

func TestARunMayHaveMaxRuns(t *testing.T) {
	for many := 1; many <= 5; many++ {
		tests, term := equalTests(many, 2), marksOf("abcde"[many-1:many])
		plan := choicesOf(choiceRows{{many - 1, -1, -1}})
		for length := range 30 {
			cost, want := impl.RunCost(tests, term, plan, drawnRun(many, length, length)), 9*length
			if length > 12 {
				want = -1
			}
			if cost != want {
				t.Fatal(many, length, cost)
			}
		}
	}
}

func TestRunsOfPlansOfMaxChoices(t *testing.T) {
	tests := turnedTests(5, 3)
	for turn, w := range longWays("e") {
		run := drawnRun(5, 12, turn)
		for _, layout := range layouts {
			plan := planOf(layout(w))
			cost, regret := impl.RunCost(tests, marksOf("e"), plan, run), impl.RegretOf(tests, marksOf("e"), plan, run)
			if all := 12 * impl.CostOf(tests); cost != all || regret != all-12*tests[4].Cost {
				t.Fatal(plan, run, cost, regret)
			}
		}
	}
}

func TestRunCostOfOthers(t *testing.T) {
	eachNotRun(func(tests []impl.Test, term []impl.Mark, plan []impl.Choice, run []int) {
		if got := impl.RunCost(tests, term, plan, run); got != -1 {
			t.Fatal(tests, term, plan, run, got)
		}
	})
}

// Promise 85.

func TestRegretsAreWhatLacksToCheapestProofs(t *testing.T) {
	eachRun(func(r ran) {
		if got, want := impl.RegretOf(r.tests, r.term, r.plan, r.run), r.regretIn(); got != want {
			t.Fatal(r.tests, r.term, r.plan, r.run, got, want)
		}
	})
}

func TestRegretsAreNeverLessThanNothing(t *testing.T) {
	eachRun(func(r ran) {
		got, sum := impl.RegretOf(r.tests, r.term, r.plan, r.run), 0
		for _, state := range r.run {
			regret := impl.RegretOf(r.tests, r.term, r.plan, []int{state})
			if regret < 0 {
				t.Fatal("in a state", r.tests, r.term, r.plan, state, regret)
			}
			sum += regret
		}
		if got != sum || got < 0 {
			t.Fatal(r.tests, r.term, r.plan, r.run, got, sum)
		}
	})
}

func TestNothingIsRegrettedWhereACheapestProofIsAsked(t *testing.T) {
	just, others := 0, 0
	eachPlanned(func(p planned) {
		for state := range p.truth {
			cost, asked, _ := impl.CostBy(p.tests, p.term, p.plan, state)
			isJust := cost == impl.ProofCost(p.tests, p.term, state)
			got := impl.RegretOf(p.tests, p.term, p.plan, []int{state})
			if (got == 0) != isJust || got < 0 {
				t.Fatal(p.tests, p.term, p.plan, state, got, cost)
			}
			if asked == impl.CheapestProof(p.tests, p.term, state) && got != 0 {
				t.Fatal("just that is asked", p.tests, p.term, p.plan, state, got)
			}
			if isJust {
				just++
			} else {
				others++
			}
		}
	})
	if just < 1000 || others < 1000 {
		t.Fatal("too few plans that ask just a cheapest proof, or more", just, others)
	}
}

func TestRegretsOfOthers(t *testing.T) {
	eachNotRun(func(tests []impl.Test, term []impl.Mark, plan []impl.Choice, run []int) {
		if got := impl.RegretOf(tests, term, plan, run); got != -1 {
			t.Fatal(tests, term, plan, run, got)
		}
	})
}

// Promise 86.

// weighedRegrets are the regrets of a plan in all states, by their weights.
func weighedRegrets(tests []impl.Test, term []impl.Mark, plan []impl.Choice) int {
	regrets := 0
	for state := range power(2, len(tests)) {
		regrets += impl.WeightOf(tests, state) * impl.RegretOf(tests, term, plan, []int{state})
	}
	return regrets
}

func TestOnAverageTheBestPlanRegretsWhatLacksToProofs(t *testing.T) {
	eachTested(func(tests []impl.Test, term []impl.Mark) {
		plan, _ := impl.BestPlan(tests, term)
		got, want := weighedRegrets(tests, term, plan), impl.BestAverage(tests, term)-impl.AverageProof(tests, term)
		if got != want || got < 0 {
			t.Fatal(tests, term, plan, got, want)
		}
	})
}

func TestOnAverageNoPlanRegretsLessThanTheBestOne(t *testing.T) {
	eachPlanned(func(p planned) {
		got, proof := weighedRegrets(p.tests, p.term, p.plan), impl.AverageProof(p.tests, p.term)
		if got != p.way.averageBy(p.tests)-proof || got < impl.BestAverage(p.tests, p.term)-proof {
			t.Fatal(p.tests, p.term, p.plan, got, proof)
		}
	})
}

func TestWhatTheBestPlanOfSomeTermsRegrets(t *testing.T) {
	tests := []impl.Test{{Cost: 2, Chance: 3}, {Cost: 5, Chance: 1}, {Cost: 1, Chance: 2}}
	for _, best := range []struct {
		signs string
		want  int
	}{
		{"ab|c!&", 864 - 780}, {"ab&a!c&|", 1080 - 1014}, {"a", 0}, {"b!", 0}, {"aa!&b|", 0}, {"ab!&a!b&|", 0}, {"aa!|", 0}, {"ab&", 6*(36*2+18*5) - 792},
	} {
		term := marksOf(best.signs)
		plan, _ := impl.BestPlan(tests, term)
		if got := weighedRegrets(tests, term, plan); got != best.want {
			t.Fatal(best, plan, got)
		}
	}
}

// General rules: arguments are never written to, and no call leaves anything behind for the next one.

func TestArgumentsOfRunsAreNotWrittenTo(t *testing.T) {
	turn := 0
	eachFewPlanned(func(p planned) {
		turn++
		length := turn % 13
		run := append(drawnRun(len(p.tests), length, turn), 7)
		before := slices.Clone(run)
		checkPlannedStays(t, p, func(tests []impl.Test, term []impl.Mark, plan []impl.Choice) []int {
			return runsFor(tests, term, plan, run[:length])
		})
		if !slices.Equal(run, before) {
			t.Fatal(run, before)
		}
	})
}

// runsFor calls all functions of the chapter and returns their results.
func runsFor(tests []impl.Test, term []impl.Mark, plan []impl.Choice, run []int) []int {
	answers := []int{impl.AverageProof(tests, term), impl.RunCost(tests, term, plan, run), impl.RegretOf(tests, term, plan, run)}
	for state := range power(2, len(tests)) {
		answers = append(answers, impl.CheapestProof(tests, term, state), impl.ProofCost(tests, term, state))
	}
	return answers
}
