package tests

import (
	"math"
	"slices"
	"testing"

	"loop.example/checksinorder/impl"
)

func TestConstantsOfTests(t *testing.T) {
	if impl.MaxTests != 5 || impl.MaxCost != 9 || impl.Sixths != 6 || impl.Unknown != -1 {
		t.Fatal(impl.MaxTests, impl.MaxCost, impl.Sixths, impl.Unknown)
	}
}

// Promise 1.

func TestOneTestIsTests(t *testing.T) {
	if !impl.TestsOk([]impl.Test{{Cost: 1, Chance: 1}}) {
		t.Fatal("one test of cost 1 and chance 1")
	}
	for cost := -3; cost <= 20; cost++ {
		for chance := -3; chance <= 20; chance++ {
			want := cost >= 1 && cost <= 9 && chance >= 1 && chance <= 5
			if impl.TestsOk([]impl.Test{{Cost: cost, Chance: chance}}) != want {
				t.Fatal(cost, chance)
			}
		}
	}
}

func TestTestsWithoutTheLastOneAreTests(t *testing.T) {
	eachTests(func(tests []impl.Test) {
		if !impl.TestsOk(tests) {
			t.Fatal(tests)
		}
		if len(tests) >= 2 && !impl.TestsOk(tests[:len(tests)-1]) {
			t.Fatal("without the last one", tests)
		}
	})
}

func TestOthersAreNoTests(t *testing.T) {
	for _, tests := range badTests() {
		if impl.TestsOk(tests) {
			t.Fatal(tests)
		}
	}
	if !impl.TestsOk(equalTests(impl.MaxTests, 5)) || impl.TestsOk(equalTests(impl.MaxTests+1, 5)) {
		t.Fatal("the greatest number of tests")
	}
}

// Promise 2.

func TestAllYesAndAllNoAreStates(t *testing.T) {
	for many := 1; many <= 5; many++ {
		all := power(2, many) - 1
		if !impl.StateOk(many, 0) || !impl.StateOk(many, all) {
			t.Fatal(many)
		}
		for state := -100; state <= 100; state++ {
			ok := impl.StateOk(many, state)
			if ok != (state >= 0 && state <= all) || ok != impl.StateOk(many, all-state) {
				t.Fatal(many, state)
			}
		}
	}
}

func TestOthersAreNoStates(t *testing.T) {
	for _, many := range badMany() {
		for _, state := range append(farNumbers(), 0, 1, 2, 31) {
			if impl.StateOk(many, state) {
				t.Fatal(many, state)
			}
		}
	}
	for many := 1; many <= 5; many++ {
		for _, state := range farNumbers() {
			if impl.StateOk(many, state) {
				t.Fatal(many, state)
			}
		}
	}
}

// Promise 3.

func TestWeightIsAProduct(t *testing.T) {
	eachTests(func(tests []impl.Test) {
		for state := range power(2, len(tests)) {
			want := 1
			for at, test := range tests {
				if saysYes(state, at) {
					want *= test.Chance
				} else {
					want *= 6 - test.Chance
				}
			}
			if got := impl.WeightOf(tests, state); got != want {
				t.Fatal(tests, state, got, want)
			}
		}
	})
}

func TestAllWeightsTogetherAreAPowerOfSix(t *testing.T) {
	eachTests(func(tests []impl.Test) {
		others := impl.OtherTests(tests)
		all := power(2, len(tests)) - 1
		sum := 0
		for state := 0; state <= all; state++ {
			weight := impl.WeightOf(tests, state)
			sum += weight
			if impl.WeightOf(others, all-state) != weight {
				t.Fatal("the other tests", tests, state)
			}
		}
		if sum != power(6, len(tests)) {
			t.Fatal(tests, sum)
		}
	})
}

func TestWeightOfOthers(t *testing.T) {
	for _, tests := range badTests() {
		for _, state := range append(farNumbers(), 0, 1, 31) {
			if got := impl.WeightOf(tests, state); got != -1 {
				t.Fatal(tests, state, got)
			}
		}
	}
	for many := 1; many <= 5; many++ {
		for _, state := range append(farNumbers(), power(2, many), power(2, many)+1) {
			if got := impl.WeightOf(equalTests(many, 2), state); got != -1 {
				t.Fatal(many, state, got)
			}
		}
	}
}

// Promise 4.

func TestOtherTwiceTheyAreAsBefore(t *testing.T) {
	eachTests(func(tests []impl.Test) {
		others := impl.OtherTests(tests)
		if !impl.TestsOk(others) || len(others) != len(tests) {
			t.Fatal(tests, others)
		}
		for at, test := range tests {
			if others[at].Cost != test.Cost || others[at].Chance != 6-test.Chance {
				t.Fatal(tests, others)
			}
		}
		if !slices.Equal(impl.OtherTests(others), tests) || impl.CostOf(others) != impl.CostOf(tests) {
			t.Fatal("twice", tests)
		}
	})
}

func TestOtherTestsOfOthers(t *testing.T) {
	for _, tests := range badTests() {
		if got := impl.OtherTests(tests); len(got) != 0 {
			t.Fatal(tests, got)
		}
	}
}

func TestOtherTestsAreNewMemory(t *testing.T) {
	room := equalTests(5, 2)
	tests := room[:3]
	others := impl.OtherTests(tests)
	if !slices.Equal(room, equalTests(5, 2)) {
		t.Fatal("the argument was written to", room)
	}
	again := impl.OtherTests(tests)
	others = others[:cap(others)]
	for at := range others {
		others[at] = impl.Test{Cost: 1, Chance: 1}
	}
	if !slices.Equal(room, equalTests(5, 2)) {
		t.Fatal("the result shares memory with the argument", room)
	}
	if !slices.Equal(again, equalTests(3, 4)) {
		t.Fatal("the results share memory with each other", again)
	}
}

// Promise 5.

func TestNothingMayBeKnown(t *testing.T) {
	for many := 1; many <= 5; many++ {
		for _, said := range []int{-1, 0, 1} {
			if !impl.KnownOk(many, slices.Repeat([]int{said}, many)) {
				t.Fatal(many, said)
			}
		}
		for _, known := range knownRows(many) {
			if !impl.KnownOk(many, known) {
				t.Fatal(known)
			}
		}
	}
}

func TestOthersAreNotKnown(t *testing.T) {
	for _, many := range badMany() {
		for length := range 9 {
			if impl.KnownOk(many, make([]int, length)) {
				t.Fatal(many, length)
			}
		}
	}
	for many := 1; many <= 5; many++ {
		for length := range 9 {
			if impl.KnownOk(many, make([]int, length)) != (length == many) {
				t.Fatal(many, length)
			}
		}
	}
	for _, known := range badKnown() {
		if impl.KnownOk(len(known), known) {
			t.Fatal(known)
		}
	}
}

// badKnown lists rows that tell nothing of as many tests as they have numbers.
func badKnown() [][]int {
	list := [][]int{nil, {}, make([]int, 6), make([]int, 64)}
	for many := 1; many <= 5; many++ {
		for at := range many {
			for _, said := range []int{-2, 2, 3, 6, math.MinInt, math.MaxInt} {
				known := make([]int, many)
				known[at] = said
				list = append(list, known)
			}
		}
	}
	return list
}

// Promise 6.

func TestAgreesWhereAllThatIsKnownComesOutSo(t *testing.T) {
	for many := 1; many <= 5; many++ {
		for _, known := range knownRows(many) {
			for state := range power(2, many) {
				want := true
				for at, said := range known {
					if said != -1 && (said == 1) != saysYes(state, at) {
						want = false
					}
				}
				if impl.AgreesOk(many, known, state) != want {
					t.Fatal(known, state)
				}
			}
		}
	}
}

func TestWhatIsKnownOfLessAgreesWithNoFewer(t *testing.T) {
	for many := 1; many <= 5; many++ {
		for _, known := range knownRows(many) {
			less := slices.Clone(known)
			less[0] = impl.Unknown
			agree, unknown := 0, 0
			for _, said := range known {
				if said == impl.Unknown {
					unknown++
				}
			}
			for state := range power(2, many) {
				if impl.AgreesOk(many, known, state) {
					agree++
					if !impl.AgreesOk(many, less, state) {
						t.Fatal(known, state)
					}
				}
			}
			if agree != power(2, unknown) {
				t.Fatal(known, agree)
			}
		}
	}
}

func TestOthersDoNotAgree(t *testing.T) {
	for many := 1; many <= 5; many++ {
		nothing := slices.Repeat([]int{impl.Unknown}, many)
		for _, state := range append(farNumbers(), power(2, many), power(2, many)+1) {
			if impl.AgreesOk(many, nothing, state) {
				t.Fatal(many, state)
			}
		}
		for _, other := range append(badMany(), many-1, many+1) {
			if impl.AgreesOk(other, nothing, 0) {
				t.Fatal("of another number of tests", many, other)
			}
		}
	}
	for _, known := range badKnown() {
		for state := -1; state <= 32; state++ {
			if impl.AgreesOk(len(known), known, state) {
				t.Fatal(known, state)
			}
		}
	}
}

// Promise 7.

func TestWeightsWhereSomethingIsKnownAreProducts(t *testing.T) {
	for _, tests := range someTests() {
		for _, known := range knownRows(len(tests)) {
			want := 1
			for at, said := range known {
				want *= map[int]int{-1: 6, 0: 6 - tests[at].Chance, 1: tests[at].Chance}[said]
			}
			if got := impl.WeightWhere(tests, known); got != want {
				t.Fatal(tests, known, got, want)
			}
		}
	}
}

func TestWeightWhereAllIsKnownIsThatOfTheState(t *testing.T) {
	for _, tests := range someTests() {
		for state := range power(2, len(tests)) {
			known := make([]int, len(tests))
			for at := range known {
				if saysYes(state, at) {
					known[at] = 1
				}
			}
			if impl.WeightWhere(tests, known) != impl.WeightOf(tests, state) {
				t.Fatal(tests, known)
			}
		}
	}
}

func TestWeightWhereForOthers(t *testing.T) {
	for _, tests := range badTests() {
		for _, length := range []int{0, 1, 5, len(tests)} {
			for _, said := range []int{impl.Unknown, 0, 1} {
				if got := impl.WeightWhere(tests, slices.Repeat([]int{said}, length)); got != -1 {
					t.Fatal(tests, length, said, got)
				}
			}
		}
	}
	for _, known := range badKnown() {
		for many := 1; many <= 5; many++ {
			if got := impl.WeightWhere(equalTests(many, 3), known); got != -1 {
				t.Fatal(known, got)
			}
		}
	}
	for many := 1; many <= 5; many++ {
		for length := range 9 {
			if got := impl.WeightWhere(equalTests(many, 3), make([]int, length)); (got == -1) != (length != many) {
				t.Fatal(many, length, got)
			}
		}
	}
}

// Promise 8.

func TestCostsAddUp(t *testing.T) {
	for cost := 1; cost <= 9; cost++ {
		if got := impl.CostOf([]impl.Test{{Cost: cost, Chance: 1}}); got != cost {
			t.Fatal(cost, got)
		}
	}
	eachTests(func(tests []impl.Test) {
		last := len(tests) - 1
		if last >= 1 && impl.CostOf(tests[:last]) != impl.CostOf(tests)-tests[last].Cost {
			t.Fatal(tests)
		}
	})
	if got := impl.CostOf(equalTests(5, 1)); got != 45 {
		t.Fatal("the greatest costs", got)
	}
}

func TestCostOfOthers(t *testing.T) {
	for _, tests := range badTests() {
		if got := impl.CostOf(tests); got != -1 {
			t.Fatal(tests, got)
		}
	}
}

// Promise 9.

func TestLikeliestStateIsToldTestByTest(t *testing.T) {
	eachTests(func(tests []impl.Test) {
		likeliest := impl.LikeliestState(tests)
		if !impl.StateOk(len(tests), likeliest) {
			t.Fatal(tests, likeliest)
		}
		for at, test := range tests {
			if saysYes(likeliest, at) != (test.Chance > 3) {
				t.Fatal(tests, likeliest)
			}
		}
		for state := range power(2, len(tests)) {
			if impl.WeightOf(tests, state) > impl.WeightOf(tests, likeliest) {
				t.Fatal("a greater weight", tests, state)
			}
		}
	})
}

func TestLikeliestOfEqualWeightsIsTheLeast(t *testing.T) {
	for many := 1; many <= 5; many++ {
		if got := impl.LikeliestState(equalTests(many, 3)); got != 0 {
			t.Fatal(many, got)
		}
		if got := impl.LikeliestState(equalTests(many, 4)); got != power(2, many)-1 {
			t.Fatal(many, got)
		}
	}
	if got := impl.LikeliestState(testsOf([]int{3, 5, 3})); got != 2 {
		t.Fatal(got)
	}
}

func TestLikeliestStateOfOthers(t *testing.T) {
	for _, tests := range badTests() {
		if got := impl.LikeliestState(tests); got != -1 {
			t.Fatal(tests, got)
		}
	}
}

// Promise 10.

func TestWhatIsNotKnownIsNoOrYes(t *testing.T) {
	for _, tests := range someTests() {
		for _, known := range knownRows(len(tests)) {
			for at := range known {
				unknown, no, yes := slices.Clone(known), slices.Clone(known), slices.Clone(known)
				unknown[at], no[at], yes[at] = impl.Unknown, 0, 1
				got := impl.WeightWhere(tests, unknown)
				if got <= 0 || got != impl.WeightWhere(tests, no)+impl.WeightWhere(tests, yes) {
					t.Fatal(tests, unknown, got)
				}
			}
		}
	}
}

func TestWhereNothingIsKnownIsAll(t *testing.T) {
	eachTests(func(tests []impl.Test) {
		nothing := slices.Repeat([]int{impl.Unknown}, len(tests))
		if got := impl.WeightWhere(tests, nothing); got != power(6, len(tests)) {
			t.Fatal(tests, got)
		}
	})
}

// General rules: arguments are never written to, and no call leaves anything behind for the next one.

func TestArgumentsOfTestsAreNotWrittenTo(t *testing.T) {
	tests := testsOf([]int{1, 3, 5, 2, 4})
	known := []int{-1, 1, 0, -1, 1}
	testsBefore, knownBefore := slices.Clone(tests), slices.Clone(known)
	first := answersOf(tests, known)
	if !slices.Equal(tests, testsBefore) || !slices.Equal(known, knownBefore) {
		t.Fatal(tests, known)
	}
	if again := answersOf(tests, known); !slices.Equal(first, again) {
		t.Fatal(first, again)
	}
}

// answersOf calls all functions of the chapter and returns their numbers.
func answersOf(tests []impl.Test, known []int) []int {
	answers := []int{impl.WeightWhere(tests, known), impl.CostOf(tests), impl.LikeliestState(tests)}
	for state := range 32 {
		answers = append(answers, impl.WeightOf(tests, state))
		if impl.TestsOk(tests) && impl.StateOk(5, state) && impl.KnownOk(5, known) && impl.AgreesOk(5, known, state) {
			answers = append(answers, state)
		}
	}
	for _, test := range impl.OtherTests(tests) {
		answers = append(answers, test.Cost, test.Chance)
	}
	return answers
}
