package tests

import (
	"slices"
	"testing"

	"loop.example/checksinorder/impl"
)

// Promise 59.

func TestOneMayBeCountedAndAll(t *testing.T) {
	eachTests(func(tests []impl.Test) {
		if !impl.CountOk(tests, 1) || !impl.CountOk(tests, len(tests)) {
			t.Fatal(tests)
		}
	})
}

func TestNoCountOfOneMoreThanThereAre(t *testing.T) {
	eachTests(func(tests []impl.Test) {
		if impl.CountOk(tests, len(tests)+1) || impl.CountOk(tests, 0) {
			t.Fatal(tests)
		}
	})
}

func TestEachCountInBetweenMayBeAsked(t *testing.T) {
	eachCount(func(tests []impl.Test, count int) {
		if !impl.CountOk(tests, count) {
			t.Fatal(tests, count)
		}
	})
}

func TestCountOkOfOthers(t *testing.T) {
	eachNoCount(func(tests []impl.Test, count int) {
		if impl.CountOk(tests, count) {
			t.Fatal(tests, count)
		}
	})
}

// Promise 60.

func TestWeightsOfSomeCounts(t *testing.T) {
	tests := []impl.Test{{Cost: 2, Chance: 3}, {Cost: 5, Chance: 1}, {Cost: 1, Chance: 4}}
	for _, weight := range []struct {
		tests []impl.Test
		count int
		want  int
	}{
		// a and b, a and c, b and c, and all of them: 6, 60, 12 and 12.
		{tests, 1, 216 - 3*5*2}, {tests, 2, 6 + 60 + 12 + 12}, {tests, 3, 12}, {tests[:2], 1, 21}, {tests[:2], 2, 3},
		{[]impl.Test{{Cost: 1, Chance: 1}}, 1, 1}, {[]impl.Test{{Cost: 9, Chance: 5}}, 1, 5},
		{equalTests(5, 3), 1, 7776 - 243}, {equalTests(5, 3), 2, 26 * 243}, {equalTests(5, 3), 3, 16 * 243}, {equalTests(5, 3), 4, 6 * 243}, {equalTests(5, 3), 5, 243},
		{equalTests(5, 5), 5, 3125}, {equalTests(5, 1), 5, 1}, {equalTests(5, 1), 4, 26}, {equalTests(5, 1), 3, 276}, {equalTests(5, 5), 1, 7775},
	} {
		if got := impl.CountWeight(weight.tests, weight.count); got != weight.want {
			t.Fatal(weight, got)
		}
	}
}

func TestAllYesWeighWhatTheirStateDoes(t *testing.T) {
	eachTests(func(tests []impl.Test) {
		many := len(tests)
		if got, want := impl.CountWeight(tests, many), impl.WeightOf(tests, power(2, many)-1); got != want || got <= 0 {
			t.Fatal(tests, got, want)
		}
	})
}

func TestSoManyYesOrSoManyNo(t *testing.T) {
	eachTests(func(tests []impl.Test) {
		many, others := len(tests), impl.OtherTests(tests)
		for count := 1; count <= many; count++ {
			yes, no := impl.CountWeight(tests, count), impl.CountWeight(others, many-count+1)
			if yes <= 0 || no <= 0 || yes+no != power(6, many) {
				t.Fatal(tests, count, yes, no)
			}
		}
	})
}

func TestCountsWeighWhatIsMultipliedOut(t *testing.T) {
	eachTests(func(tests []impl.Test) {
		weights := countWeights(tests)
		want := 0
		for count := len(tests); count >= 1; count-- {
			want += weights[count]
			if got := impl.CountWeight(tests, count); got != want {
				t.Fatal(tests, count, got, want)
			}
		}
	})
}

func TestACountOfOneWeighsWhatTheRowOfOneDoes(t *testing.T) {
	eachTests(func(tests []impl.Test) {
		many := len(tests)
		one, all := impl.CountWeight(tests, 1), impl.CountWeight(tests, many)
		if one != impl.TrueWeight(tests, rowOf(many, impl.RowOr)) || all != impl.TrueWeight(tests, rowOf(many, impl.RowAnd)) {
			t.Fatal(tests, one, all)
		}
	})
}

func TestCountWeightOfOthers(t *testing.T) {
	eachNoCount(func(tests []impl.Test, count int) {
		if got := impl.CountWeight(tests, count); got != -1 {
			t.Fatal(tests, count, got)
		}
	})
}

// Promise 61.

func TestNextTestsInSomeCounts(t *testing.T) {
	tests := []impl.Test{{Cost: 2, Chance: 3}, {Cost: 5, Chance: 1}, {Cost: 1, Chance: 4}}
	// For yes a, c, b; for no b, c, a.
	against := []impl.Test{{Cost: 1, Chance: 5}, {Cost: 1, Chance: 1}, {Cost: 1, Chance: 3}}
	// For yes a, b, e, c, d: 1, 1, 1, 2 and 4; for no d, a, c, b, e: 4/5, 1, 1, 2 and 5.
	five := []impl.Test{{Cost: 3, Chance: 3}, {Cost: 4, Chance: 4}, {Cost: 4, Chance: 2}, {Cost: 4, Chance: 1}, {Cost: 5, Chance: 5}}
	for _, next := range []struct {
		tests              []impl.Test
		some, needed, want int
	}{
		// For yes and for no c, a, b.
		{tests, 7, 1, 2}, {tests, 7, 2, 0}, {tests, 7, 3, 2}, {tests, 6, 1, 2}, {tests, 6, 2, 2}, {tests, 5, 1, 2}, {tests, 5, 2, 2}, {tests, 3, 1, 0}, {tests, 3, 2, 0},
		{tests, 1, 1, 0}, {tests, 2, 1, 1}, {tests, 4, 1, 2},
		{against, 7, 1, 0}, {against, 7, 2, 2}, {against, 7, 3, 1}, {against, 3, 1, 0}, {against, 3, 2, 1}, {against, 5, 1, 0}, {against, 5, 2, 2}, {against, 6, 1, 2}, {against, 6, 2, 1},
		{five, 31, 1, 0}, {five, 31, 2, 0}, {five, 31, 3, 0}, {five, 31, 4, 0}, {five, 31, 5, 3}, {five, 30, 1, 1}, {five, 30, 2, 1}, {five, 30, 3, 2}, {five, 30, 4, 3},
		{five, 22, 1, 1}, {five, 22, 2, 1}, {five, 22, 3, 2}, {five, 26, 2, 1}, {five, 26, 3, 3}, {five, 28, 1, 4}, {five, 28, 2, 2}, {five, 24, 1, 4}, {five, 24, 2, 3}, {five, 16, 1, 4},
		{equalTests(5, 2), 31, 1, 0}, {equalTests(5, 2), 31, 5, 0}, {equalTests(5, 2), 26, 2, 1}, {equalTests(5, 5), 28, 3, 2}, {equalTests(1, 1), 1, 1, 0},
	} {
		if got := impl.NextInCount(next.tests, next.some, next.needed); got != next.want {
			t.Fatal(next, got)
		}
	}
}

func TestTwoOrdersAlwaysMeet(t *testing.T) {
	several := 0
	eachLeft(func(tests []impl.Test, some, needed int) {
		meeting := meetingIn(tests, listOf(some), needed)
		got := impl.NextInCount(tests, some, needed)
		if len(meeting) == 0 || got != meeting[0] || got < 0 || !saysYes(some, got) {
			t.Fatal(tests, some, needed, got, meeting)
		}
		// Where several tests meet, the least one need not be first in either order.
		if len(meeting) > 1 && aheadOf(tests, listOf(some), got, impl.RowOr) > 0 && aheadOf(tests, listOf(some), got, impl.RowAnd) > 0 {
			several++
		}
	})
	if several < 1000 {
		t.Fatal("too few where several tests meet", several)
	}
}

func TestForTheOtherTestsAndTheNoTheSameTestIsNext(t *testing.T) {
	eachLeft(func(tests []impl.Test, some, needed int) {
		against := len(listOf(some)) - needed + 1
		got, other := impl.NextInCount(tests, some, needed), impl.NextInCount(impl.OtherTests(tests), some, against)
		if got != other || got == -1 {
			t.Fatal(tests, some, needed, got, other)
		}
	})
}

func TestForOneYesTheFirstForYesIsNextAndForAllTheFirstForNo(t *testing.T) {
	for _, tests := range countedTests() {
		for some := 1; some < power(2, len(tests)); some++ {
			isLeft := func(at int) bool { return saysYes(some, at) }
			forYes, forNo := sortedIn(tests, impl.RowOr), sortedIn(tests, impl.RowAnd)
			one, all := impl.NextInCount(tests, some, 1), impl.NextInCount(tests, some, len(listOf(some)))
			if one != forYes[slices.IndexFunc(forYes, isLeft)] || all != forNo[slices.IndexFunc(forNo, isLeft)] {
				t.Fatal(tests, some, one, all)
			}
		}
	}
}

func TestOneTestThatIsLeftIsNext(t *testing.T) {
	eachTests(func(tests []impl.Test) {
		for at := range tests {
			if got := impl.NextInCount(tests, power(2, at), 1); got != at {
				t.Fatal(tests, at, got)
			}
		}
	})
}

func TestOfEqualTestsTheLeastOneIsNext(t *testing.T) {
	for many := 1; many <= 5; many++ {
		for chance := 1; chance <= 5; chance++ {
			for some := 1; some < power(2, many); some++ {
				left := listOf(some)
				for needed := 1; needed <= len(left); needed++ {
					if got := impl.NextInCount(equalTests(many, chance), some, needed); got != left[0] {
						t.Fatal(many, chance, some, needed, got)
					}
				}
			}
		}
	}
}

func TestNextInCountOfOthers(t *testing.T) {
	eachNoLeft(func(tests []impl.Test, some, needed int) {
		if got := impl.NextInCount(tests, some, needed); got != -1 {
			t.Fatal(tests, some, needed, got)
		}
	})
}

// Promise 62.

func TestAveragesOfSomeCounts(t *testing.T) {
	tests := []impl.Test{{Cost: 2, Chance: 3}, {Cost: 5, Chance: 1}, {Cost: 1, Chance: 4}}
	for _, average := range []struct {
		tests []impl.Test
		count int
		want  int
	}{
		{tests, 1, 216 + 2*2*36 + 5*2*3*6}, {tests, 3, 216 + 2*4*36 + 5*4*3*6},
		// a; after a no c, and b after its yes; after a yes c, and b after its no.
		{tests, 2, 2*216 + 3*(36+4*5*6) + 3*(36+2*5*6)},
		{tests[:2], 1, 72 + 3*5*6}, {tests[:2], 2, 5*3*6 + 72}, {[]impl.Test{{Cost: 1, Chance: 1}}, 1, 6}, {[]impl.Test{{Cost: 9, Chance: 5}}, 1, 54},
		// Of five equal tests three are asked at least, and all if two of the first four come out yes.
		{equalTests(5, 3), 3, 9 * (7776*3 + 7776*3/4 + 7776*3/8)}, {equalTests(5, 3), 1, 9 * (7776 + 3888 + 1944 + 972 + 486)}, {equalTests(5, 3), 5, 9 * (7776 + 3888 + 1944 + 972 + 486)},
		{equalTests(5, 1), 1, 9 * (7776 + 5*1296 + 25*216 + 125*36 + 625*6)}, {equalTests(5, 1), 5, 9 * (7776 + 1296 + 216 + 36 + 6)}, {equalTests(5, 5), 1, 9 * (7776 + 1296 + 216 + 36 + 6)},
		// c; and after either answer the one that is the likelier to end it.
		{[]impl.Test{{Cost: 1, Chance: 5}, {Cost: 1, Chance: 1}, {Cost: 1, Chance: 3}}, 2, 216 + 3*(36+6) + 3*(36+6)},
	} {
		if got := impl.CountAverage(average.tests, average.count); got != average.want {
			t.Fatal("average", average, got)
		}
		if got := impl.CountBest(average.tests, average.count); got != average.want {
			t.Fatal("best", average, got)
		}
	}
}

func TestAveragesOfCountsAreSumsOverStates(t *testing.T) {
	eachSomeCount(func(tests []impl.Test, count int) {
		if got, want := impl.CountAverage(tests, count), countAverageIn(tests, count); got != want {
			t.Fatal(tests, count, got, want)
		}
	})
}

func TestNoWayToCountIsBetter(t *testing.T) {
	eachCount(func(tests []impl.Test, count int) {
		if got, best := impl.CountAverage(tests, count), impl.CountBest(tests, count); got != best || got <= 0 {
			t.Fatal(tests, count, got, best)
		}
	})
}

func TestCountsOfOneAndOfAllCostWhatRowsDo(t *testing.T) {
	for _, tests := range countedTests() {
		wantOne := impl.RowAverage(tests, impl.RatioOrder(tests, impl.RowOr), impl.RowOr)
		wantAll := impl.RowAverage(tests, impl.RatioOrder(tests, impl.RowAnd), impl.RowAnd)
		one, all := impl.CountAverage(tests, 1), impl.CountAverage(tests, len(tests))
		if one != wantOne || all != wantAll || one != rowAverageIn(tests, sortedIn(tests, impl.RowOr), impl.RowOr) || all != rowAverageIn(tests, sortedIn(tests, impl.RowAnd), impl.RowAnd) {
			t.Fatal(tests, one, wantOne, all, wantAll)
		}
	}
}

func TestCountsAreAskedJustUntilTheyAreKnown(t *testing.T) {
	eachSomeCount(func(tests []impl.Test, count int) {
		truth := countTruth(len(tests), count)
		w := wayBy(truth, nothingKnown(len(tests)), func(known []int) int {
			some, needed := 0, count
			for at, said := range known {
				if said == -1 {
					some += power(2, at)
				} else {
					needed -= said
				}
			}
			return impl.NextInCount(tests, some, needed)
		})
		if got, want := impl.CountAverage(tests, count), w.averageBy(tests); got != want {
			t.Fatal(tests, count, got, want)
		}
	})
}

func TestCountAverageOfOthers(t *testing.T) {
	eachNoCount(func(tests []impl.Test, count int) {
		if got := impl.CountAverage(tests, count); got != -1 {
			t.Fatal(tests, count, got)
		}
	})
}

// Promise 63.

func TestTheBestCountIsTheLeastOfAllWays(t *testing.T) {
	for turn, tests := range countedTests() {
		if many := len(tests); many == 5 || many == 4 && turn%31 != 0 || many == 3 && turn%7 != 0 {
			continue
		}
		for count := 1; count <= len(tests); count++ {
			least := -1
			for _, w := range waysIn(countTruth(len(tests), count), nothingKnown(len(tests))) {
				if average := w.averageBy(tests); least == -1 || average < least {
					least = average
				}
			}
			if got := impl.CountBest(tests, count); got != least {
				t.Fatal(tests, count, got, least)
			}
		}
	}
}

func TestTheBestCountIsTheLeastByWhatIsKnown(t *testing.T) {
	turn := 0
	eachSomeCount(func(tests []impl.Test, count int) {
		turn++
		if len(tests) <= 3 && turn%11 != 0 {
			return
		}
		if _, least := bestWay(tests, countTruth(len(tests), count)); impl.CountBest(tests, count) != least {
			t.Fatal(tests, count, impl.CountBest(tests, count), least)
		}
	})
}

func TestCountingYesIsCountingNo(t *testing.T) {
	eachCount(func(tests []impl.Test, count int) {
		got, other := impl.CountBest(tests, count), impl.CountBest(impl.OtherTests(tests), len(tests)-count+1)
		if got != other || got <= 0 {
			t.Fatal(tests, count, got, other)
		}
	})
}

func TestTheBestCountOfOneIsTheBestAverageOfTheRowOfOne(t *testing.T) {
	for _, tests := range countedTests() {
		many := len(tests)
		if got, want := impl.CountBest(tests, 1), impl.BestAverage(tests, impl.RowTerm(many, impl.RowOr)); got != want || got <= 0 {
			t.Fatal("one", tests, got, want)
		}
		if got, want := impl.CountBest(tests, many), impl.BestAverage(tests, impl.RowTerm(many, impl.RowAnd)); got != want || got <= 0 {
			t.Fatal("all", tests, got, want)
		}
	}
}

func TestNoCountCostsMoreThanAllTests(t *testing.T) {
	eachCount(func(tests []impl.Test, count int) {
		got, all := impl.CountBest(tests, count), impl.CostOf(tests)*power(6, len(tests))
		// One test alone is always asked; of more of them there is a state in which it is known before.
		if got > all || (got == all) != (len(tests) == 1) {
			t.Fatal(tests, count, got, all)
		}
	})
}

func TestInWhichOrderTestsStandDoesNotMatterForCounts(t *testing.T) {
	for _, tests := range meetingCounts {
		for count := 1; count <= len(tests); count++ {
			want := impl.CountBest(tests, count)
			for _, order := range ordersOf(len(tests)) {
				var moved []impl.Test
				for _, at := range order {
					moved = append(moved, tests[at])
				}
				if average, best := impl.CountAverage(moved, count), impl.CountBest(moved, count); average != want || best != want {
					t.Fatal(moved, count, average, best, want)
				}
			}
		}
	}
}

func TestCountBestOfOthers(t *testing.T) {
	eachNoCount(func(tests []impl.Test, count int) {
		if got := impl.CountBest(tests, count); got != -1 {
			t.Fatal(tests, count, got)
		}
	})
}

// Promise 64.

func TestTwoOfThreeAreATerm(t *testing.T) {
	// a&b|c&(a|b), (a|b)&(c|a&b), and a&b|a&c|b&c.
	for _, signs := range []string{"ab&cab|&|", "ab|cab&|&", "ab&ac&|bc&|"} {
		term := marksOf(signs)
		if !slices.Equal(truthOf(3, term), countTruth(3, 2)) {
			t.Fatal(signs)
		}
		for _, tests := range countedTests() {
			if len(tests) != 3 {
				continue
			}
			best, average, want := impl.CountBest(tests, 2), impl.CountAverage(tests, 2), impl.BestAverage(tests, term)
			if best != want || average != want || want <= 0 {
				t.Fatal(tests, signs, best, average, want)
			}
			if got, want := impl.CountWeight(tests, 2), impl.TrueWeight(tests, term); got != want {
				t.Fatal("weight", tests, signs, got, want)
			}
		}
	}
}

// Promise 65.

func TestAllCountsTogetherAreAllChances(t *testing.T) {
	eachTests(func(tests []impl.Test) {
		chances, together := 0, 0
		for _, test := range tests {
			chances += test.Chance
		}
		for count := 1; count <= len(tests); count++ {
			together += impl.CountWeight(tests, count)
		}
		if together != chances*power(6, len(tests)-1) {
			t.Fatal(tests, together, chances)
		}
	})
}

func TestEachNextCountWeighsLess(t *testing.T) {
	eachTests(func(tests []impl.Test) {
		before := power(6, len(tests))
		for count := 1; count <= len(tests); count++ {
			next := impl.CountWeight(tests, count)
			// There is a state of each number of yes, and each state weighs something.
			if next >= before || next <= 0 {
				t.Fatal(tests, count, before, next)
			}
			before = next
		}
	})
}

// General rules: arguments are never written to, and no call leaves anything behind for the next one.

func TestArgumentsOfCountsAreNotWrittenTo(t *testing.T) {
	eachCount(func(tests []impl.Test, count int) {
		longTests := append(slices.Clone(tests), impl.Test{Cost: 7, Chance: 7})
		testsBefore := slices.Clone(longTests)
		first := countsFor(longTests[:len(tests)], count)
		again := countsFor(tests, count)
		if !slices.Equal(longTests, testsBefore) || !slices.Equal(first, again) {
			t.Fatal(longTests, count, first, again)
		}
	})
}

// countsFor calls all functions of the chapter and returns their numbers.
func countsFor(tests []impl.Test, count int) []int {
	answers := []int{impl.CountWeight(tests, count), impl.CountAverage(tests, count), impl.CountBest(tests, count)}
	for some := range power(2, len(tests)) {
		answers = append(answers, impl.NextInCount(tests, some, count))
	}
	if impl.CountOk(tests, count) {
		answers = append(answers, -2)
	}
	return answers
}
