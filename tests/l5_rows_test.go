package tests

import (
	"slices"
	"testing"

	"loop.example/checksinorder/impl"
)

func TestConstantsOfRows(t *testing.T) {
	if impl.RowAnd != 0 || impl.RowOr != 1 {
		t.Fatal(impl.RowAnd, impl.RowOr)
	}
}

// Promise 32.

func TestRowsOfEachNumberOfTests(t *testing.T) {
	for many, want := range []struct{ and, or, andText, orText string }{
		1: {"a", "a", "a", "a"},
		2: {"ab&", "ab|", "a&b", "a|b"},
		3: {"ab&c&", "ab|c|", "a&b&c", "a|b|c"},
		4: {"ab&c&d&", "ab|c|d|", "a&b&c&d", "a|b|c|d"},
		5: {"ab&c&d&e&", "ab|c|d|e|", "a&b&c&d&e", "a|b|c|d|e"},
	} {
		if many == 0 {
			continue
		}
		and, or := impl.RowTerm(many, impl.RowAnd), impl.RowTerm(many, impl.RowOr)
		if !slices.Equal(and, marksOf(want.and)) || impl.TermText(many, and) != want.andText {
			t.Fatal("all", many, and)
		}
		if !slices.Equal(or, marksOf(want.or)) || impl.TermText(many, or) != want.orText {
			t.Fatal("one at least", many, or)
		}
	}
}

func TestRowsReadEachTestOnce(t *testing.T) {
	for many := 1; many <= 5; many++ {
		for _, row := range bothRows {
			term := impl.RowTerm(many, row)
			if !impl.TermOk(many, term) || !impl.OnceOk(many, term) || impl.LettersOf(many, term) != power(2, many)-1 {
				t.Fatal(many, row, term)
			}
		}
	}
}

func TestTheDualOfARowIsTheOtherOne(t *testing.T) {
	for many := 1; many <= 5; many++ {
		and, or := impl.RowTerm(many, impl.RowAnd), impl.RowTerm(many, impl.RowOr)
		if !slices.Equal(impl.DualTerm(many, and), or) || !slices.Equal(impl.DualTerm(many, or), and) {
			t.Fatal(many, and, or)
		}
	}
}

func TestRowsAreTrueIfAllAreOrIfOneIs(t *testing.T) {
	for many := 1; many <= 5; many++ {
		last := power(2, many) - 1
		for state := range last + 1 {
			all, one := impl.ValueOf(many, impl.RowTerm(many, impl.RowAnd), state), impl.ValueOf(many, impl.RowTerm(many, impl.RowOr), state)
			if all != (state == last) || one != (state != 0) {
				t.Fatal(many, state, all, one)
			}
		}
	}
}

func TestRowTermOfOthers(t *testing.T) {
	for _, many := range badMany() {
		for _, row := range append(badRows(), bothRows...) {
			if term := impl.RowTerm(many, row); len(term) != 0 {
				t.Fatal(many, row, term)
			}
		}
	}
	for many := 1; many <= 5; many++ {
		for _, row := range badRows() {
			if term := impl.RowTerm(many, row); len(term) != 0 {
				t.Fatal(many, row, term)
			}
		}
	}
}

// Promise 33.

func TestOrdersByRatiosOfSomeTests(t *testing.T) {
	for _, sorted := range []struct {
		tests   []impl.Test
		and, or []int
	}{
		{[]impl.Test{{Cost: 2, Chance: 3}, {Cost: 5, Chance: 1}, {Cost: 1, Chance: 5}}, []int{0, 1, 2}, []int{2, 0, 1}},
		{[]impl.Test{{Cost: 9, Chance: 5}}, []int{0}, []int{0}},
		{[]impl.Test{{Cost: 1, Chance: 1}}, []int{0}, []int{0}},
		// 9/1 and 9/5 for no, 9/5 and 9/1 for yes.
		{[]impl.Test{{Cost: 9, Chance: 5}, {Cost: 9, Chance: 1}}, []int{1, 0}, []int{0, 1}},
		// 1 for each no; 1/5, 2/4, 3/3, 4/2 and 5/1 for yes.
		{[]impl.Test{{Cost: 1, Chance: 5}, {Cost: 2, Chance: 4}, {Cost: 3, Chance: 3}, {Cost: 4, Chance: 2}, {Cost: 5, Chance: 1}}, []int{0, 1, 2, 3, 4}, []int{0, 1, 2, 3, 4}},
		{[]impl.Test{{Cost: 5, Chance: 1}, {Cost: 4, Chance: 2}, {Cost: 3, Chance: 3}, {Cost: 2, Chance: 4}, {Cost: 1, Chance: 5}}, []int{0, 1, 2, 3, 4}, []int{4, 3, 2, 1, 0}},
		// 7/4, 9/5, 5/3, 8/5 and 3/2 for yes; 7/2, 9, 5/3, 8 and 3/4 for no.
		{[]impl.Test{{Cost: 7, Chance: 4}, {Cost: 9, Chance: 5}, {Cost: 5, Chance: 3}, {Cost: 8, Chance: 5}, {Cost: 3, Chance: 2}}, []int{4, 2, 0, 3, 1}, []int{4, 3, 2, 0, 1}},
		// 9/3, 6/2 and 3/1 for no, with 2/1 and 1/2 beside them; 3, 6/4, 3/5, 2/5 and 1/4 for yes.
		{[]impl.Test{{Cost: 9, Chance: 3}, {Cost: 2, Chance: 5}, {Cost: 6, Chance: 4}, {Cost: 1, Chance: 4}, {Cost: 3, Chance: 5}}, []int{3, 1, 0, 2, 4}, []int{3, 1, 4, 2, 0}},
	} {
		if got := impl.RatioOrder(sorted.tests, impl.RowAnd); !slices.Equal(got, sorted.and) {
			t.Fatal("all", sorted, got)
		}
		if got := impl.RatioOrder(sorted.tests, impl.RowOr); !slices.Equal(got, sorted.or) {
			t.Fatal("one at least", sorted, got)
		}
	}
}

func TestTheLeastRatioIsFirst(t *testing.T) {
	eachRow(func(tests []impl.Test, row int) {
		got := impl.RatioOrder(tests, row)
		if want := sortedIn(tests, row); !impl.OrderOk(len(tests), got) || !slices.Equal(got, want) {
			t.Fatal(tests, row, got, want)
		}
	})
}

func TestOfEqualRatiosTheLesserTestIsFirst(t *testing.T) {
	for _, equal := range [][][2]int{
		{{1, 1}, {2, 2}, {3, 3}, {4, 4}, {5, 5}}, {{2, 1}, {4, 2}, {6, 3}, {8, 4}}, {{3, 1}, {6, 2}, {9, 3}}, {{3, 2}, {6, 4}}, {{9, 5}, {9, 5}, {9, 5}, {9, 5}, {9, 5}},
	} {
		for _, row := range bothRows {
			tests := endingTests(equal, row)
			for _, order := range ordersOf(len(tests)) {
				var moved []impl.Test
				for _, at := range order {
					moved = append(moved, tests[at])
				}
				if got := impl.RatioOrder(moved, row); !slices.Equal(got, ascending(len(moved))) {
					t.Fatal(moved, row, got)
				}
			}
		}
	}
}

func TestTheOrderByRatiosCannotBeBettered(t *testing.T) {
	eachRow(func(tests []impl.Test, row int) {
		many := len(tests)
		byRatios := impl.RatioOrder(tests, row)
		least := impl.RowAverage(tests, byRatios, row)
		for _, order := range ordersOf(many) {
			average := impl.RowAverage(tests, order, row)
			if least < 0 || average < least || average == least && slices.Compare(order, byRatios) < 0 {
				t.Fatal(tests, row, byRatios, least, order, average)
			}
		}
	})
}

func TestTheOrderByRatiosIsTheBestOrder(t *testing.T) {
	eachRow(func(tests []impl.Test, row int) {
		byRatios := impl.RatioOrder(tests, row)
		best, least := impl.BestOrder(tests, impl.RowTerm(len(tests), row))
		if !slices.Equal(byRatios, best) || impl.RowAverage(tests, byRatios, row) != least {
			t.Fatal(tests, row, byRatios, best, least)
		}
	})
}

func TestByTheOtherTestsTheOrderOfTheOtherRowIsTheSame(t *testing.T) {
	eachRow(func(tests []impl.Test, row int) {
		got, other := impl.RatioOrder(tests, row), impl.RatioOrder(impl.OtherTests(tests), impl.RowOr-row)
		if len(got) == 0 || !slices.Equal(got, other) {
			t.Fatal(tests, row, got, other)
		}
	})
}

func TestRatioOrderOfOthers(t *testing.T) {
	for _, tests := range badTests() {
		for _, row := range append(badRows(), bothRows...) {
			if order := impl.RatioOrder(tests, row); len(order) != 0 {
				t.Fatal(tests, row, order)
			}
		}
	}
	for many := 1; many <= 5; many++ {
		for _, row := range badRows() {
			if order := impl.RatioOrder(equalTests(many, 2), row); len(order) != 0 {
				t.Fatal(many, row, order)
			}
		}
	}
}

// Promise 34.

func TestAveragesOfSomeRows(t *testing.T) {
	tests := []impl.Test{{Cost: 2, Chance: 3}, {Cost: 5, Chance: 1}, {Cost: 1, Chance: 5}}
	for _, average := range []struct {
		tests []impl.Test
		order []int
		row   int
		want  int
	}{
		{tests, []int{0, 1, 2}, impl.RowAnd, 2*216 + 5*3*36 + 3*1*6}, {tests, []int{1, 0, 2}, impl.RowAnd, 5*216 + 2*1*36 + 1*3*6}, {tests, []int{2, 1, 0}, impl.RowAnd, 216 + 5*5*36 + 2*5*1*6},
		{tests, []int{0, 1, 2}, impl.RowOr, 2*216 + 5*3*36 + 3*5*6}, {tests, []int{2, 0, 1}, impl.RowOr, 216 + 2*1*36 + 5*1*3*6},
		{[]impl.Test{{Cost: 1, Chance: 1}}, []int{0}, impl.RowAnd, 6}, {[]impl.Test{{Cost: 9, Chance: 5}}, []int{0}, impl.RowOr, 54},
		{[]impl.Test{{Cost: 9, Chance: 5}, {Cost: 1, Chance: 1}}, []int{0, 1}, impl.RowAnd, 9*36 + 5*6}, {[]impl.Test{{Cost: 9, Chance: 5}, {Cost: 1, Chance: 1}}, []int{0, 1}, impl.RowOr, 9*36 + 1*6},
		{equalTests(5, 5), []int{4, 2, 0, 1, 3}, impl.RowAnd, 9 * (7776 + 5*1296 + 25*216 + 125*36 + 625*6)}, {equalTests(5, 5), []int{4, 2, 0, 1, 3}, impl.RowOr, 9 * (7776 + 1296 + 216 + 36 + 6)},
		{equalTests(5, 1), []int{0, 1, 2, 3, 4}, impl.RowAnd, 9 * (7776 + 1296 + 216 + 36 + 6)}, {equalTests(5, 1), []int{0, 1, 2, 3, 4}, impl.RowOr, 9 * (7776 + 5*1296 + 25*216 + 125*36 + 625*6)},
	} {
		if got := impl.RowAverage(average.tests, average.order, average.row); got != average.want {
			t.Fatal(average, got)
		}
	}
}

func TestAveragesOfRowsAreSumsOverStates(t *testing.T) {
	eachOrderedRow(func(tests []impl.Test, order []int, row int) {
		if got, want := impl.RowAverage(tests, order, row), rowAverageIn(tests, order, row); got != want {
			t.Fatal(tests, order, row, got, want)
		}
	})
}

func TestAveragesOfRowsAreThoseOfTheTerm(t *testing.T) {
	eachOrderedRow(func(tests []impl.Test, order []int, row int) {
		got := impl.RowAverage(tests, order, row)
		if want := impl.AverageIn(tests, impl.RowTerm(len(tests), row), order); got != want || got <= 0 {
			t.Fatal(tests, order, row, got, want)
		}
	})
}

func TestAveragesInAllOrdersAreThoseOfTheTerm(t *testing.T) {
	for many := 1; many <= 5; many++ {
		for _, row := range bothRows {
			term := rowOf(many, row)
			for turn, order := range ordersOf(many) {
				for _, tests := range testLists(many, turn) {
					if got, want := impl.RowAverage(tests, order, row), impl.AverageIn(tests, term, order); got != want {
						t.Fatal(tests, order, row, got, want)
					}
				}
			}
		}
	}
}

func TestRowAverageOfOthers(t *testing.T) {
	eachNoOrderedRow(func(tests []impl.Test, order []int, row int) {
		if got := impl.RowAverage(tests, order, row); got != -1 {
			t.Fatal(tests, order, row, got)
		}
	})
}

// Promise 35.

func TestGainsOfSomeExchanges(t *testing.T) {
	tests := []impl.Test{{Cost: 2, Chance: 3}, {Cost: 5, Chance: 1}, {Cost: 1, Chance: 5}}
	for _, gain := range []struct {
		tests []impl.Test
		order []int
		at    int
		row   int
		want  int
	}{
		{tests, []int{1, 0, 2}, 0, impl.RowAnd, 180}, {tests, []int{0, 1, 2}, 0, impl.RowAnd, -180}, {tests, []int{0, 1, 2}, 1, impl.RowAnd, 3 * 6 * (5*1 - 1*5)},
		{tests, []int{0, 1, 2}, 1, impl.RowOr, 3 * 6 * (5*5 - 1*1)}, {tests, []int{0, 1, 2}, 0, impl.RowOr, 36 * (2*1 - 5*3)},
		{equalTests(5, 5), []int{4, 2, 0, 1, 3}, 3, impl.RowAnd, 0}, {equalTests(2, 1), []int{1, 0}, 0, impl.RowOr, 0},
		// Other costs and chances, but of an equal ratio.
		{[]impl.Test{{Cost: 1, Chance: 5}, {Cost: 5, Chance: 1}}, []int{0, 1}, 0, impl.RowAnd, 0}, {[]impl.Test{{Cost: 9, Chance: 3}, {Cost: 3, Chance: 1}}, []int{1, 0}, 0, impl.RowOr, 0},
		// The greatest gain of two tests, and the greatest loss.
		{[]impl.Test{{Cost: 9, Chance: 1}, {Cost: 1, Chance: 5}}, []int{0, 1}, 0, impl.RowOr, 6 * (9*5 - 1*1)}, {[]impl.Test{{Cost: 9, Chance: 1}, {Cost: 1, Chance: 5}}, []int{1, 0}, 0, impl.RowOr, 6 * (1*1 - 9*5)},
	} {
		if got, ok := impl.SwapGain(gain.tests, gain.order, gain.at, gain.row); !ok || got != gain.want {
			t.Fatal(gain, got, ok)
		}
	}
}

// eachExchange calls visit for the orders of eachOrderedRow, each with each place that has a next one.
func eachExchange(visit func(tests []impl.Test, order []int, at, row int)) {
	eachOrderedRow(func(tests []impl.Test, order []int, row int) {
		for at := range len(order) - 1 {
			visit(tests, order, at, row)
		}
	})
}

func TestTheGainIsWhatTheExchangedOrderCostsLess(t *testing.T) {
	eachExchange(func(tests []impl.Test, order []int, at, row int) {
		swapped := exchanged(order, at, at+1)
		want := impl.RowAverage(tests, order, row) - impl.RowAverage(tests, swapped, row)
		if got, ok := impl.SwapGain(tests, order, at, row); !ok || got != want {
			t.Fatal(tests, order, at, row, got, ok, want)
		}
		if back, ok := impl.SwapGain(tests, swapped, at, row); !ok || back != -want {
			t.Fatal("exchanged back", tests, order, at, row, back, ok, want)
		}
	})
}

func TestExchangingNeighboursChangesTheCostJustByTheirRatios(t *testing.T) {
	eachExchange(func(tests []impl.Test, order []int, at, row int) {
		first, second := tests[order[at]], tests[order[at+1]]
		difference := first.Cost*endOf(second, row) - second.Cost*endOf(first, row)
		got, ok := impl.SwapGain(tests, order, at, row)
		if !ok || (got > 0) != (difference > 0) || (got == 0) != (difference == 0) {
			t.Fatal("the sign", tests, order, at, row, got, ok)
		}
		// What is ahead of both keeps some states from them, and what is behind them costs the same.
		comingTo := power(6, len(order)-1-at)
		for _, before := range order[:at] {
			comingTo *= 6 - endOf(tests[before], row)
		}
		if got != comingTo*difference {
			t.Fatal("how much", tests, order, at, row, got, comingTo, difference)
		}
	})
}

func TestNoGainWhereThereIsNoNextTest(t *testing.T) {
	for many := 1; many <= 5; many++ {
		for _, order := range ordersOf(many) {
			for _, at := range append(farNumbers(), -3, many-1, many, many+1) {
				for _, row := range bothRows {
					if got, ok := impl.SwapGain(turnedTests(many, at&7), order, at, row); ok || got != 0 {
						t.Fatal(order, at, row, got, ok)
					}
				}
			}
		}
	}
}

func TestSwapGainOfOthers(t *testing.T) {
	eachNoOrderedRow(func(tests []impl.Test, order []int, row int) {
		for _, at := range []int{-1, 0, 1, len(tests) - 2, len(tests) - 1, len(order) - 2} {
			if got, ok := impl.SwapGain(tests, order, at, row); ok || got != 0 {
				t.Fatal(tests, order, at, row, got, ok)
			}
		}
	})
}

// Promise 36.

func TestByRatiosNoNeighboursGain(t *testing.T) {
	eachRow(func(tests []impl.Test, row int) {
		order := impl.RatioOrder(tests, row)
		for at := range len(order) - 1 {
			got, ok := impl.SwapGain(tests, order, at, row)
			isEqual := ratioIn(tests[order[at]], row) == ratioIn(tests[order[at+1]], row)
			if !ok || got > 0 || (got == 0) != isEqual || isEqual && order[at] > order[at+1] {
				t.Fatal(tests, row, order, at, got, ok)
			}
		}
	})
}

func TestOnlySortedOrdersHaveNoNeighboursThatGain(t *testing.T) {
	eachOrderedRow(func(tests []impl.Test, order []int, row int) {
		isSorted, gains := true, false
		for at := range len(order) - 1 {
			got, _ := impl.SwapGain(tests, order, at, row)
			gains = gains || got > 0
			isSorted = isSorted && ratioIn(tests[order[at]], row) <= ratioIn(tests[order[at+1]], row)
		}
		isBest := impl.RowAverage(tests, order, row) == impl.RowAverage(tests, impl.RatioOrder(tests, row), row)
		if gains == isSorted || isBest != isSorted {
			t.Fatal(tests, order, row, gains, isSorted, isBest)
		}
	})
}

// Promise 37.

func TestRowsAreTrueByProducts(t *testing.T) {
	eachRow(func(tests []impl.Test, row int) {
		all, none := 1, 1
		for _, test := range tests {
			all *= test.Chance
			none *= 6 - test.Chance
		}
		want := all
		if row == impl.RowOr {
			want = power(6, len(tests)) - none
		}
		if got := impl.TrueWeight(tests, impl.RowTerm(len(tests), row)); got != want {
			t.Fatal(tests, row, got, want)
		}
	})
}

func TestTrueWeightsOfSomeRows(t *testing.T) {
	tests := []impl.Test{{Cost: 2, Chance: 3}, {Cost: 5, Chance: 1}, {Cost: 1, Chance: 5}}
	for _, weight := range []struct {
		tests   []impl.Test
		and, or int
	}{
		{tests, 15, 216 - 15}, {tests[1:2], 1, 1}, {tests[:2], 3, 36 - 15}, {equalTests(5, 5), 3125, 7776 - 1}, {equalTests(5, 1), 1, 7776 - 3125},
	} {
		and, or := impl.TrueWeight(weight.tests, impl.RowTerm(len(weight.tests), impl.RowAnd)), impl.TrueWeight(weight.tests, impl.RowTerm(len(weight.tests), impl.RowOr))
		if and != weight.and || or != weight.or {
			t.Fatal(weight, and, or)
		}
	}
}

// General rules: results are new memory, arguments are never written to, and no call leaves anything behind for the next one.

func TestResultsOfRowsAreNewMemory(t *testing.T) {
	for _, row := range bothRows {
		for many := 1; many <= 5; many++ {
			term, order := impl.RowTerm(many, row), impl.RatioOrder(turnedTests(many, 3), row)
			termBefore, orderBefore := slices.Clone(term), slices.Clone(order)
			term, order = term[:cap(term)], order[:cap(order)]
			for i := range term {
				term[i] = impl.Mark{Kind: 77, At: 77}
			}
			for i := range order {
				order[i] = 77
			}
			if got := impl.RowTerm(many, row); !slices.Equal(got, termBefore) {
				t.Fatal(many, row, got, termBefore)
			}
			if got := impl.RatioOrder(turnedTests(many, 3), row); !slices.Equal(got, orderBefore) {
				t.Fatal(many, row, got, orderBefore)
			}
		}
	}
}

func TestArgumentsOfRowsAreNotWrittenTo(t *testing.T) {
	eachOrderedRow(func(tests []impl.Test, order []int, row int) {
		longTests, longOrder := append(slices.Clone(tests), impl.Test{Cost: 7, Chance: 7}), append(slices.Clone(order), 7, 7)
		testsBefore, orderBefore := slices.Clone(longTests), slices.Clone(longOrder)
		first := rowsFor(longTests[:len(tests)], longOrder[:len(order)], row)
		if !slices.Equal(longTests, testsBefore) || !slices.Equal(longOrder, orderBefore) {
			t.Fatal(longTests, longOrder)
		}
		if again := rowsFor(tests, order, row); !slices.Equal(first, again) {
			t.Fatal("called again", tests, order, row, first, again)
		}
	})
}

// rowsFor calls the functions of the chapter that are given tests and returns their numbers.
func rowsFor(tests []impl.Test, order []int, row int) []int {
	answers := append(impl.RatioOrder(tests, row), impl.RowAverage(tests, order, row))
	for at := range order {
		gain, _ := impl.SwapGain(tests, order, at, row)
		answers = append(answers, gain)
	}
	return answers
}
