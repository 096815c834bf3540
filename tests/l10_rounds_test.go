package tests

import (
	"slices"
	"testing"

	"loop.example/checksinorder/impl"
)

// Promise 71.

func TestWhatSomeRoundsCost(t *testing.T) {
	tests := []impl.Test{{Cost: 2, Chance: 3}, {Cost: 5, Chance: 1}, {Cost: 1, Chance: 4}}
	for _, asked := range []struct {
		tests  []impl.Test
		rounds [][]int
		fee    int
		want   int
	}{
		{tests, [][]int{{0}, {1}, {2}}, 0, 2*216 + 5*3*36 + 1*3*6}, {tests, [][]int{{0}, {1}, {2}}, 20, 22*216 + 25*3*36 + 21*3*6}, {tests, [][]int{{2}, {0}, {1}}, 4, 5*216 + 6*4*36 + 9*12*6},
		{tests, [][]int{{0, 1, 2}}, 0, 8 * 216}, {tests, [][]int{{0, 1, 2}}, 20, 28 * 216}, {tests, [][]int{{2, 0, 1}}, 7, 15 * 216},
		{tests, [][]int{{0}, {2, 1}}, 1, 3*216 + 7*3*36}, {tests, [][]int{{1, 2}, {0}}, 1, 7*216 + 3*4*6}, {tests, [][]int{{2, 0}, {1}}, 9, 12*216 + 14*12*6}, {tests, [][]int{{1}, {0, 2}}, 0, 5*216 + 3*36},
		{tests[:1], [][]int{{0}}, 0, 12}, {tests[:1], [][]int{{0}}, 20, 132}, {[]impl.Test{{Cost: 9, Chance: 5}}, [][]int{{0}}, 0, 54}, {[]impl.Test{{Cost: 9, Chance: 5}}, [][]int{{0}}, 20, 174},
		{equalTests(5, 5), [][]int{{4, 2}, {0}, {1, 3}}, 2, 20*7776 + 11*25*216 + 20*125*36}, {equalTests(5, 5), [][]int{{4}, {3, 2, 1, 0}}, 20, 29*7776 + 56*5*1296}, {equalTests(5, 5), [][]int{{4, 3, 2, 1}, {0}}, 20, 56*7776 + 29*625*6},
		{equalTests(5, 1), [][]int{{0, 1, 2, 3, 4}}, 20, 65 * 7776}, {equalTests(5, 1), [][]int{{0}, {1}, {2}, {3}, {4}}, 20, 29 * (7776 + 1296 + 216 + 36 + 6)}, {equalTests(5, 3), [][]int{{0}, {3}, {2, 4, 1}}, 0, 9*7776 + 9*3*1296 + 27*9*216},
	} {
		if got := impl.RoundAverage(asked.tests, asked.rounds, asked.fee); got != asked.want {
			t.Fatal(asked, got)
		}
	}
}

func TestAveragesOfRoundsAreSumsOverStates(t *testing.T) {
	eachRounded(func(tests []impl.Test, rounds [][]int, fee int) {
		if got, want := impl.RoundAverage(tests, rounds, fee), roundAverageIn(tests, rounds, fee); got != want {
			t.Fatal(tests, rounds, fee, got, want)
		}
	})
}

func TestRoundsOfOneWithNoFeeAreAnOrder(t *testing.T) {
	for many := 1; many <= 5; many++ {
		for turn, order := range ordersOf(many) {
			var rounds [][]int
			for _, at := range order {
				rounds = append(rounds, []int{at})
			}
			for _, tests := range testLists(many, turn) {
				if got, want := impl.RoundAverage(tests, rounds, 0), impl.RowAverage(tests, order, impl.RowAnd); got != want || got <= 0 {
					t.Fatal(tests, order, got, want)
				}
			}
		}
	}
	for _, tests := range rowTests() {
		many := len(tests)
		if got, want := impl.RoundAverage(tests, ownGroups(many), 0), impl.RowAverage(tests, ascending(many), impl.RowAnd); got != want || got <= 0 {
			t.Fatal(tests, got, want)
		}
	}
}

func TestOneRoundOfAllCostsAllTestsAndOneFee(t *testing.T) {
	for turn, tests := range rowTests() {
		many := len(tests)
		for _, fee := range feesIn(turn) {
			if got := impl.RoundAverage(tests, oneGroup(many), fee); got != (impl.CostOf(tests)+fee)*power(6, many) {
				t.Fatal(tests, fee, got)
			}
		}
	}
}

func TestOneMoreForTheFeeCostsItOnceAtLeastAndForEachRoundAtMost(t *testing.T) {
	eachGrouped(func(tests []impl.Test, rounds [][]int) {
		whole := power(6, len(tests))
		first := impl.RoundAverage(tests, rounds, 1) - impl.RoundAverage(tests, rounds, 0)
		if first < whole || first > whole*len(rounds) || len(rounds) > 1 && (first == whole || first == whole*len(rounds)) {
			t.Fatal(tests, rounds, first)
		}
		for fee := range 20 {
			if more := impl.RoundAverage(tests, rounds, fee+1) - impl.RoundAverage(tests, rounds, fee); more != first {
				t.Fatal(tests, rounds, fee, more, first)
			}
		}
	})
}

// eachNoRounded calls visit for what lacks just one of tests, rounds of them, and a fee.
func eachNoRounded(visit func(tests []impl.Test, rounds [][]int, fee int)) {
	eachNoGrouped(func(tests []impl.Test, rounds [][]int) {
		for _, fee := range feesIn(len(tests)) {
			visit(tests, rounds, fee)
		}
	})
	for many := 1; many <= 5; many++ {
		for _, rounds := range groupsOf(many) {
			for _, fee := range badFees() {
				visit(equalTests(many, 2), rounds, fee)
			}
		}
	}
}

func TestRoundAverageOfOthers(t *testing.T) {
	eachNoRounded(func(tests []impl.Test, rounds [][]int, fee int) {
		if got := impl.RoundAverage(tests, rounds, fee); got != -1 {
			t.Fatal(tests, rounds, fee, got)
		}
	})
}

// Promise 72.

func TestSomeBestRounds(t *testing.T) {
	stage := []impl.Test{{Cost: 2, Chance: 3}, {Cost: 5, Chance: 1}, {Cost: 1, Chance: 5}}
	tests := []impl.Test{{Cost: 2, Chance: 3}, {Cost: 5, Chance: 1}, {Cost: 1, Chance: 4}}
	likely := slices.Repeat([]impl.Test{{Cost: 1, Chance: 5}}, 5)
	for _, best := range []struct {
		tests  []impl.Test
		fee    int
		rounds [][]int
		want   int
	}{
		{stage, 0, [][]int{{0}, {1}, {2}}, 990}, {stage[:1], 4, [][]int{{0}}, 36}, {[]impl.Test{{Cost: 9, Chance: 5}}, 0, [][]int{{0}}, 54}, {[]impl.Test{{Cost: 9, Chance: 5}}, 20, [][]int{{0}}, 174},
		{tests, 0, [][]int{{2}, {0}, {1}}, 216 + 2*4*36 + 5*12*6}, {tests, 1, [][]int{{0}, {2}, {1}}, 3*216 + 2*3*36 + 6*12*6}, {tests, 2, [][]int{{0, 2}, {1}}, 5*216 + 7*12*6}, {tests, 5, [][]int{{1}, {0, 2}}, 10*216 + 8*36}, {tests, 14, [][]int{{1, 2}, {0}}, 20*216 + 16*4*6}, {tests, 20, [][]int{{0, 1, 2}}, 28 * 216},
		{equalTests(5, 5), 0, ownGroups(5), 9 * (7776 + 5*1296 + 25*216 + 125*36 + 625*6)}, {equalTests(5, 1), 20, ownGroups(5), 29 * (7776 + 1296 + 216 + 36 + 6)}, {likely, 20, oneGroup(5), 25 * 7776},
		// Two tests in one round cost as much.
		{[]impl.Test{{Cost: 3, Chance: 5}, {Cost: 5, Chance: 1}}, 15, [][]int{{1}, {0}}, 20*36 + 18*6}, {[]impl.Test{{Cost: 7, Chance: 2}, {Cost: 9, Chance: 2}}, 18, [][]int{{0}, {1}}, 25*36 + 27*2*6}, {equalTests(4, 3), 9, ownGroups(4), 18 * (1296 + 3*216 + 9*36 + 27*6)},
		// {2} and {0, 1}, and {0, 2} and {1}, cost as much; with the tests the other way, {1, 2} and {0}, and {0, 2} and {1}, do.
		{[]impl.Test{{Cost: 1, Chance: 3}, {Cost: 2, Chance: 2}, {Cost: 3, Chance: 1}}, 8, [][]int{{0, 1}, {2}}, 11*216 + 11*6*6}, {[]impl.Test{{Cost: 3, Chance: 1}, {Cost: 2, Chance: 2}, {Cost: 1, Chance: 3}}, 8, [][]int{{0}, {1, 2}}, 11*216 + 11*36},
		// {2}, {1} and {0}, and {0, 2} and {1}, cost as much.
		{[]impl.Test{{Cost: 3, Chance: 3}, {Cost: 5, Chance: 1}, {Cost: 2, Chance: 2}}, 9, [][]int{{1}, {0, 2}}, 14*216 + 14*36},
		// {1}, {3} and {0, 2} cost as much; and of five tests {1, 3}, {2} and {0, 4} do.
		{[]impl.Test{{Cost: 8, Chance: 3}, {Cost: 6, Chance: 2}, {Cost: 8, Chance: 4}, {Cost: 9, Chance: 2}}, 8, [][]int{{1}, {3}, {0}, {2}}, 14*1296 + 17*2*216 + 16*4*36 + 16*12*6},
		{[]impl.Test{{Cost: 7, Chance: 4}, {Cost: 3, Chance: 2}, {Cost: 5, Chance: 2}, {Cost: 3, Chance: 3}, {Cost: 6, Chance: 4}}, 20, [][]int{{1, 2}, {0, 3, 4}}, 28*7776 + 36*4*216},
	} {
		if rounds, got := impl.BestRounds(best.tests, best.fee); got != best.want || !equalRows(rounds, best.rounds) {
			t.Fatal(best, rounds, got)
		}
	}
}

func TestBestRoundsAreRoundsThatCostWhatIsTold(t *testing.T) {
	eachPriced(func(tests []impl.Test, fee int) {
		many := len(tests)
		rounds, got := impl.BestRounds(tests, fee)
		if !impl.GroupsOk(many, rounds) || !areGroups(many, rounds) || got != impl.RoundAverage(tests, rounds, fee) || got != roundAverageIn(tests, rounds, fee) {
			t.Fatal(tests, fee, rounds, got)
		}
		for _, round := range rounds {
			if !slices.IsSorted(round) {
				t.Fatal(tests, fee, rounds)
			}
		}
	})
}

func TestNoRoundsCostLess(t *testing.T) {
	eachPriced(func(tests []impl.Test, fee int) {
		_, got := impl.BestRounds(tests, fee)
		all := groupsOf(len(tests))
		// Of five tests each seventh ones, which have their tests in all orders.
		step := 1
		if len(tests) == 5 {
			step = 7
		}
		for i := 0; i < len(all); i += step {
			if other := impl.RoundAverage(tests, all[i], fee); other < got || other <= 0 {
				t.Fatal(tests, fee, got, all[i], other)
			}
		}
	})
}

func TestOfEqualRoundsTheLeastSetsGoFirst(t *testing.T) {
	eachPriced(func(tests []impl.Test, fee int) {
		rounds, got := impl.BestRounds(tests, fee)
		if want, least := bestRoundsIn(tests, fee); got != least || !equalRows(rounds, want) {
			t.Fatal(tests, fee, rounds, got, want, least)
		}
	})
}

func TestWithNoFeeEachTestIsInItsOwnRoundByItsRatio(t *testing.T) {
	for _, tests := range rowTests() {
		order := impl.RatioOrder(tests, impl.RowAnd)
		rounds, got := impl.BestRounds(tests, 0)
		if len(rounds) != len(tests) || !slices.Equal(slices.Concat(rounds...), order) || got != impl.RowAverage(tests, order, impl.RowAnd) || got <= 0 {
			t.Fatal(tests, order, rounds, got)
		}
	}
}

func TestWhatFollowsTheFirstRoundIsBestForWhatIsLeft(t *testing.T) {
	parted := 0
	eachPriced(func(tests []impl.Test, fee int) {
		rounds, _ := impl.BestRounds(tests, fee)
		if len(rounds) == 1 {
			return
		}
		var left []impl.Test
		places := slices.Sorted(slices.Values(slices.Concat(rounds[1:]...)))
		for _, at := range places {
			left = append(left, tests[at])
		}
		behind, _ := impl.BestRounds(left, fee)
		for _, round := range behind {
			for i, at := range round {
				round[i] = places[at]
			}
		}
		if !equalRows(behind, rounds[1:]) {
			t.Fatal(tests, fee, rounds, behind)
		}
		parted++
	})
	if parted < 1000 {
		t.Fatal("too few of several rounds", parted)
	}
}

// eachNotPriced calls visit for what lacks just one of tests and a fee.
func eachNotPriced(visit func(tests []impl.Test, fee int)) {
	for turn, tests := range badTests() {
		for _, fee := range feesIn(turn) {
			visit(tests, fee)
		}
	}
	for _, tests := range someTests() {
		for _, fee := range badFees() {
			visit(tests, fee)
		}
	}
}

func TestBestRoundsOfOthers(t *testing.T) {
	eachNotPriced(func(tests []impl.Test, fee int) {
		if rounds, got := impl.BestRounds(tests, fee); len(rounds) != 0 || got != -1 {
			t.Fatal(tests, fee, rounds, got)
		}
	})
}

// Promise 73.

func TestSomeJoinedRounds(t *testing.T) {
	for _, joined := range []struct {
		many   int
		rounds [][]int
		at     int
		want   [][]int
	}{
		{2, [][]int{{0}, {1}}, 0, [][]int{{0, 1}}}, {2, [][]int{{1}, {0}}, 0, [][]int{{1, 0}}}, {3, [][]int{{2, 0}, {1}}, 0, [][]int{{2, 0, 1}}}, {3, [][]int{{1}, {2, 0}}, 0, [][]int{{1, 2, 0}}},
		{3, [][]int{{0}, {1}, {2}}, 0, [][]int{{0, 1}, {2}}}, {3, [][]int{{0}, {1}, {2}}, 1, [][]int{{0}, {1, 2}}}, {5, [][]int{{3, 1}, {0, 4}, {2}}, 0, [][]int{{3, 1, 0, 4}, {2}}}, {5, [][]int{{3, 1}, {0, 4}, {2}}, 1, [][]int{{3, 1}, {0, 4, 2}}},
		{5, [][]int{{4}, {3}, {2}, {1}, {0}}, 0, [][]int{{4, 3}, {2}, {1}, {0}}}, {5, [][]int{{4}, {3}, {2}, {1}, {0}}, 1, [][]int{{4}, {3, 2}, {1}, {0}}}, {5, [][]int{{4}, {3}, {2}, {1}, {0}}, 2, [][]int{{4}, {3}, {2, 1}, {0}}}, {5, [][]int{{4}, {3}, {2}, {1}, {0}}, 3, [][]int{{4}, {3}, {2}, {1, 0}}},
	} {
		if got, ok := impl.JoinedRounds(joined.many, joined.rounds, joined.at); !ok || !equalRows(got, joined.want) {
			t.Fatal(joined, got, ok)
		}
	}
}

func TestJoinedRoundsAreRoundsOneFewer(t *testing.T) {
	eachGroups(func(many int, rounds [][]int) {
		for at := range len(rounds) - 1 {
			joined, ok := impl.JoinedRounds(many, rounds, at)
			if !ok || len(joined) != len(rounds)-1 || !impl.GroupsOk(many, joined) || !areGroups(many, joined) || !equalRows(joined, joinedRows(rounds, at)) {
				t.Fatal(many, rounds, at, joined, ok)
			}
		}
	})
}

func TestWithNoFeeJoinedRoundsCostNoLess(t *testing.T) {
	eachGrouped(func(tests []impl.Test, rounds [][]int) {
		before := impl.RoundAverage(tests, rounds, 0)
		for at := range len(rounds) - 1 {
			joined, _ := impl.JoinedRounds(len(tests), rounds, at)
			// Each test costs something, and each round ends all in some states, so that it costs more.
			if got := impl.RoundAverage(tests, joined, 0); got <= before || before <= 0 {
				t.Fatal(tests, rounds, at, joined, got, before)
			}
		}
	})
}

func TestJoinedRoundsSaveAFeeAndAskInVain(t *testing.T) {
	dearer, cheaper := 0, 0
	eachJoint(func(tests []impl.Test, rounds [][]int, fee, at int) {
		joined, ok := impl.JoinedRounds(len(tests), rounds, at)
		more := impl.RoundAverage(tests, joined, fee) - impl.RoundAverage(tests, rounds, fee)
		if !ok || more != joiningIn(tests, rounds, at, fee) {
			t.Fatal(tests, rounds, fee, at, joined, more)
		}
		if more > 0 {
			dearer++
		}
		if more < 0 {
			cheaper++
		}
	})
	if dearer < 1000 || cheaper < 1000 {
		t.Fatal("too few that cost more, or less", dearer, cheaper)
	}
}

func TestNoJoinedRoundsWhereThereIsNoNextOne(t *testing.T) {
	eachGroups(func(many int, rounds [][]int) {
		last := len(rounds) - 1
		for _, at := range append(farNumbers(), last, last+1, last+2, 5, 6) {
			if joined, ok := impl.JoinedRounds(many, rounds, at); len(joined) != 0 || ok {
				t.Fatal(many, rounds, at, joined)
			}
		}
	})
}

func TestJoinedRoundsOfOthers(t *testing.T) {
	eachNoGroups(func(many int, rounds [][]int) {
		for at := -1; at <= min(len(rounds), 6); at++ {
			if joined, ok := impl.JoinedRounds(many, rounds, at); len(joined) != 0 || ok {
				t.Fatal(many, rounds, at, joined)
			}
		}
	})
	eachGroups(func(many int, rounds [][]int) {
		for other := 1; other <= 5; other++ {
			if joined, ok := impl.JoinedRounds(other, rounds, 0); other != many && (len(joined) != 0 || ok) {
				t.Fatal(other, rounds, joined)
			}
		}
	})
}

// Promise 74.

func TestWhatSomeGreaterFeesCost(t *testing.T) {
	tests := []impl.Test{{Cost: 2, Chance: 3}, {Cost: 5, Chance: 1}, {Cost: 1, Chance: 4}}
	want := []int{864, 1296, 1584, 1872, 2160}
	// 5 and 3 for the tests of the rounds {1} and {0, 2}; 6 and 2 for {1, 2} and {0}; and 8 for one round.
	for fee := 5; fee <= 20; fee++ {
		want = append(want, min((5+fee)*216+(3+fee)*36, (6+fee)*216+(2+fee)*24, (8+fee)*216))
	}
	for fee := range want {
		if _, got := impl.BestRounds(tests, fee); got != want[fee] {
			t.Fatal(fee, got, want[fee])
		}
	}
}

func TestOneMoreForTheFeeCostsBestRoundsItOnceAtLeast(t *testing.T) {
	eachOfAllFees(func(tests []impl.Test, averages, howMany []int) {
		whole := power(6, len(tests))
		for fee, got := range averages[:20] {
			if next := averages[fee+1]; next < got+whole || next > got+whole*howMany[fee] || got <= 0 {
				t.Fatal(tests, fee, got, next, howMany[fee])
			}
		}
	})
}

func TestGreaterFeesCostEverLessMore(t *testing.T) {
	lessMore := 0
	eachOfAllFees(func(tests []impl.Test, averages, _ []int) {
		for fee := range 19 {
			first, second := averages[fee+1]-averages[fee], averages[fee+2]-averages[fee+1]
			if first < 0 || second < 0 || second > first {
				t.Fatal(tests, fee, averages)
			}
			if second < first {
				lessMore++
			}
		}
	})
	if lessMore < 1000 {
		t.Fatal("too few that grow by less", lessMore)
	}
}

func TestFeesMayBeFromNothingToTheGreatestOne(t *testing.T) {
	if impl.MaxFee != 20 {
		t.Fatal(impl.MaxFee)
	}
	for fee := -1; fee <= 21; fee++ {
		isFee := fee >= 0 && fee <= 20
		average := impl.RoundAverage(equalTests(2, 3), oneGroup(2), fee)
		rounds, least := impl.BestRounds(equalTests(2, 3), fee)
		if isFee != (average == (18+fee)*36) || isFee != (least > 0) || isFee != (len(rounds) > 0) {
			t.Fatal(fee, average, rounds, least)
		}
	}
}

// Promise 75.

func TestWithinARoundTheOrderDoesNotMatter(t *testing.T) {
	eachRounded(func(tests []impl.Test, rounds [][]int, fee int) {
		turned, sorted := copied(rounds), copied(rounds)
		for i := range rounds {
			slices.Reverse(turned[i])
			slices.Sort(sorted[i])
		}
		got := impl.RoundAverage(tests, rounds, fee)
		if got != impl.RoundAverage(tests, turned, fee) || got != impl.RoundAverage(tests, sorted, fee) || got <= 0 {
			t.Fatal(tests, rounds, fee, got)
		}
	})
}

func TestInAllOrdersOneRoundCostsTheSame(t *testing.T) {
	for many := 1; many <= 5; many++ {
		tests := turnedTests(many, 7)
		for turn, order := range ordersOf(many) {
			for _, fee := range feesIn(turn) {
				if got := impl.RoundAverage(tests, [][]int{order}, fee); got != (impl.CostOf(tests)+fee)*power(6, many) {
					t.Fatal(tests, order, fee, got)
				}
			}
		}
	}
}

func TestInWhichOrderRoundsStandDoesMatter(t *testing.T) {
	tests := []impl.Test{{Cost: 2, Chance: 3}, {Cost: 5, Chance: 1}, {Cost: 1, Chance: 4}}
	for _, rounds := range groupsOf(3) {
		if len(rounds) == 1 {
			continue
		}
		if got, turned := impl.RoundAverage(tests, rounds, 3), impl.RoundAverage(tests, turnedRows(rounds), 3); got == turned {
			t.Fatal(rounds, got)
		}
	}
}

// General rules: results are new memory, arguments are never written to, and no call leaves anything behind for the next one.

// checkOwnMemory fails if rows share memory with each other.
func checkOwnMemory(t *testing.T, rows [][]int) {
	before := copied(rows)
	for i, row := range rows {
		if !slices.Equal(row, before[i]) {
			t.Fatal("rows share memory", before, i, row)
		}
		overwrite(row, 77)
	}
	overwrite(rows, []int{77})
}

func TestResultsOfRoundsAreNewMemory(t *testing.T) {
	eachGroups(func(many int, rounds [][]int) {
		roundsBefore := copied(rounds)
		for at := range len(rounds) - 1 {
			joined, _ := impl.JoinedRounds(many, rounds, at)
			checkOwnMemory(t, joined)
			again, ok := impl.JoinedRounds(many, rounds, at)
			if !equalRows(rounds, roundsBefore) || !ok || !equalRows(again, joinedRows(roundsBefore, at)) {
				t.Fatal(many, rounds, at, again)
			}
		}
	})
	eachPriced(func(tests []impl.Test, fee int) {
		// What stands behind the tests stays as well.
		tests = append(tests, impl.Test{Cost: 7, Chance: 7})[:len(tests)]
		testsBefore := slices.Clone(tests[:len(tests)+1])
		rounds, average := impl.BestRounds(tests, fee)
		roundsBefore := copied(rounds)
		checkOwnMemory(t, rounds)
		again, averageAgain := impl.BestRounds(tests, fee)
		if !slices.Equal(tests[:len(tests)+1], testsBefore) || !equalRows(again, roundsBefore) || averageAgain != average {
			t.Fatal(tests, fee, again, roundsBefore)
		}
	})
}

func TestArgumentsOfRoundsAreNotWrittenTo(t *testing.T) {
	eachGrouped(func(tests []impl.Test, rounds [][]int) {
		checkArgumentsStay(t, tests, rounds, roundsFor)
	})
}

// roundsFor calls all functions of the chapter and returns their numbers.
func roundsFor(tests []impl.Test, rounds [][]int) []int {
	var answers []int
	for _, fee := range feesIn(len(tests)) {
		answers = append(answers, impl.RoundAverage(tests, rounds, fee))
	}
	for at := range rounds {
		joined, _ := impl.JoinedRounds(len(tests), rounds, at)
		answers = append(answers, slices.Concat(joined...)...)
	}
	return answers
}
