package tests

import (
	"math/bits"
	"slices"
	"testing"

	"loop.example/checksinorder/impl"
)

// Promise 25.

func TestOneByOneIsAnOrder(t *testing.T) {
	for many := 1; many <= 5; many++ {
		if !impl.OrderOk(many, ascending(many)) || !impl.OrderOk(many, reversed(ascending(many))) {
			t.Fatal(many)
		}
	}
}

func TestOrdersHaveEachTestOnce(t *testing.T) {
	for many := 1; many <= 5; many++ {
		for length := range many + 2 {
			for _, row := range rowsOf(length, -1, many) {
				want := length == many && hasEach(row)
				if impl.OrderOk(many, row) != want {
					t.Fatal(many, row, want)
				}
				if impl.OrderOk(many, reversed(row)) != want {
					t.Fatal("from the last one to the first one", many, row, want)
				}
			}
		}
	}
}

func TestThereAreAllOrders(t *testing.T) {
	for i, want := range []int{1, 2, 6, 24, 120} {
		orders := ordersOf(1 + i)
		if len(orders) != want || !slices.IsSortedFunc(orders, slices.Compare) {
			t.Fatal(1+i, len(orders))
		}
		for _, order := range orders {
			if !impl.OrderOk(1+i, order) {
				t.Fatal(order)
			}
		}
	}
}

func TestOthersAreNoOrders(t *testing.T) {
	for _, many := range badMany() {
		for length := range 9 {
			for _, row := range [][]int{ascending(length), reversed(ascending(length)), make([]int, length)} {
				if impl.OrderOk(many, row) {
					t.Fatal(many, row)
				}
			}
		}
	}
	for many := 1; many <= 5; many++ {
		for _, row := range badOrders(many) {
			if impl.OrderOk(many, row) {
				t.Fatal(many, row)
			}
		}
	}
}

// Promise 26.

func TestAskedInSomeOrders(t *testing.T) {
	for _, asked := range []struct {
		many  int
		signs string
		order []int
		state int
		want  int
	}{
		{1, "a", []int{0}, 0, 1}, {1, "a!", []int{0}, 1, 1}, {1, "aa!|", []int{0}, 0, 0}, {1, "aa!&", []int{0}, 1, 0},
		{5, "aa!|", []int{4, 3, 2, 1, 0}, 31, 0}, {5, "ee!&", []int{0, 1, 2, 3, 4}, 0, 0},
		{5, "a", []int{0, 1, 2, 3, 4}, 0, 1}, {5, "a", []int{4, 3, 2, 1, 0}, 0, 5}, {5, "c", []int{4, 3, 2, 1, 0}, 31, 3},
		{2, "ab&", []int{0, 1}, 0, 1}, {2, "ab&", []int{0, 1}, 1, 2}, {2, "ab&", []int{1, 0}, 1, 1}, {2, "ab&", []int{0, 1}, 3, 2}, {2, "ab|", []int{0, 1}, 1, 1}, {2, "ab|", []int{0, 1}, 0, 2},
		{2, "ab!&a!b&|", []int{0, 1}, 2, 2}, {2, "aa!&b|", []int{1, 0}, 0, 1}, {2, "aa!&b|", []int{0, 1}, 0, 2},
		{3, "ab|c!&", []int{2, 0, 1}, 4, 1}, {3, "ab|c!&", []int{0, 1, 2}, 1, 3}, {3, "ab|c!&", []int{2, 0, 1}, 1, 2}, {3, "ab|c!&", []int{2, 0, 1}, 0, 3}, {3, "ab|c!&", []int{0, 1, 2}, 0, 2},
		{3, "ab&a!c&|", []int{0, 2, 1}, 0, 2}, {3, "ab&a!c&|", []int{0, 2, 1}, 1, 3}, {3, "ab&a!c&|", []int{1, 2, 0}, 6, 2},
		{5, "abcde&&&&", []int{0, 1, 2, 3, 4}, 31, 5}, {5, "abcde&&&&", []int{0, 1, 2, 3, 4}, 30, 1}, {5, "abcde&&&&", []int{0, 1, 2, 3, 4}, 15, 5}, {5, "abcde&&&&", []int{1, 0, 2, 3, 4}, 30, 2},
	} {
		if got := impl.AskedIn(asked.many, marksOf(asked.signs), asked.order, asked.state); got != asked.want {
			t.Fatal(asked, got)
		}
	}
}

func TestAskedUntilTheValueIsForced(t *testing.T) {
	eachOrdered(func(tests []impl.Test, term []impl.Mark, order []int) {
		many := len(tests)
		for state := range power(2, many) {
			asked := impl.AskedIn(many, term, order, state)
			for more := range many + 1 {
				value, ok := impl.ForcedBy(many, term, knownIn(many, state, setOf(order[:more])))
				if !ok || (value != impl.Unknown) != (more >= asked) {
					t.Fatal(many, term, order, state, asked, more, value)
				}
			}
		}
	})
}

func TestWhatIsAskedIsAProof(t *testing.T) {
	eachOrdered(func(tests []impl.Test, term []impl.Mark, order []int) {
		many := len(tests)
		for state := range power(2, many) {
			asked := impl.AskedIn(many, term, order, state)
			if asked < 0 || asked > many || !impl.ProofOk(many, term, state, setOf(order[:asked])) {
				t.Fatal("no proof", many, term, order, state, asked)
			}
			if asked > 0 && impl.ProofOk(many, term, state, setOf(order[:asked-1])) {
				t.Fatal("a proof before", many, term, order, state, asked)
			}
			if !slices.ContainsFunc(impl.LeastProofs(many, term, state), func(proof int) bool { return bits.OnesCount(uint(proof)) <= asked }) {
				t.Fatal("fewer than each least proof has", many, term, order, state, asked)
			}
		}
	})
}

func TestAskedIsAsManyAsMakeAProofFirst(t *testing.T) {
	eachOrdered(func(tests []impl.Test, term []impl.Mark, order []int) {
		truth := truthOf(len(tests), term)
		for state := range truth {
			if got, want := impl.AskedIn(len(tests), term, order, state), askedIn(truth, order, state); got != want {
				t.Fatal(term, order, state, got, want)
			}
		}
	})
}

// alwaysSo lists terms for so many tests whose values are forced from the first on.
func alwaysSo(many int) [][]impl.Mark {
	var list [][]impl.Mark
	for at := range many {
		letter := "abcde"[at : at+1]
		for _, signs := range []string{letter + letter + "!|", letter + letter + "!&", "a" + letter + "&a&!a" + letter + "&|", "a" + letter + "|!a" + letter + "|&!!!!!"} {
			list = append(list, marksOf(signs))
		}
	}
	return list
}

func TestNothingIsAskedOfWhatIsAlwaysSo(t *testing.T) {
	for many := 1; many <= 5; many++ {
		for turn, term := range alwaysSo(many) {
			tests := turnedTests(many, turn)
			for _, order := range ordersOf(many) {
				for state := range power(2, many) {
					if got := impl.AskedIn(many, term, order, state); got != 0 {
						t.Fatal("asked", many, term, order, state, got)
					}
					if got := impl.CostIn(tests, term, order, state); got != 0 {
						t.Fatal("cost", many, term, order, state, got)
					}
				}
				if got := impl.AverageIn(tests, term, order); got != 0 {
					t.Fatal("average", many, term, order, got)
				}
			}
			if order, average := impl.BestOrder(tests, term); average != 0 || !slices.Equal(order, ascending(many)) {
				t.Fatal("best", many, term, order, average)
			}
		}
	}
}

// eachNotOrdered calls visit for what lacks just one of a term for so many tests, an order of them, and a state.
func eachNotOrdered(visit func(many int, term []impl.Mark, order []int, state int)) {
	eachNoTerm(func(many int, term []impl.Mark) {
		if many < 1 || many > 5 {
			for length := range 8 {
				visit(many, term, ascending(length), 0)
				visit(many, term, ascending(length), 1)
			}
			return
		}
		visit(many, term, ascending(many), 0)
		visit(many, term, reversed(ascending(many)), power(2, many)-1)
	})
	for many := 1; many <= 5; many++ {
		for _, signs := range []string{"a", "aa!|", "aa!&"} {
			for _, order := range badOrders(many) {
				visit(many, marksOf(signs), order, 0)
				visit(many, marksOf(signs), order, power(2, many)-1)
			}
			for _, state := range badStates(many) {
				visit(many, marksOf(signs), ascending(many), state)
				visit(many, marksOf(signs), reversed(ascending(many)), state)
			}
		}
	}
}

func TestAskedInOfOthers(t *testing.T) {
	eachNotOrdered(func(many int, term []impl.Mark, order []int, state int) {
		if got := impl.AskedIn(many, term, order, state); got != -1 {
			t.Fatal(many, term, order, state, got)
		}
	})
}

// Promise 27.

func TestCostIsThatOfWhatIsAsked(t *testing.T) {
	eachOrdered(func(tests []impl.Test, term []impl.Mark, order []int) {
		truth := truthOf(len(tests), term)
		for state := range truth {
			if got, want := impl.CostIn(tests, term, order, state), costIn(tests, truth, order, state); got != want {
				t.Fatal(tests, term, order, state, got, want)
			}
		}
	})
}

func TestNoOrderCostsMoreThanAllTests(t *testing.T) {
	eachOrdered(func(tests []impl.Test, term []impl.Mark, order []int) {
		many := len(tests)
		for state := range power(2, many) {
			cost, asked := impl.CostIn(tests, term, order, state), impl.AskedIn(many, term, order, state)
			if cost < 0 || cost > impl.CostOf(tests) || (cost == 0) != (asked == 0) || (cost == impl.CostOf(tests)) != (asked == many) {
				t.Fatal(tests, term, order, state, cost, asked)
			}
		}
	})
}

func TestCostInSomeOrders(t *testing.T) {
	tests := []impl.Test{{Cost: 2, Chance: 3}, {Cost: 5, Chance: 1}, {Cost: 1, Chance: 2}}
	for state, want := range []int{8, 3, 8, 3, 1, 1, 1, 1} {
		if got := impl.CostIn(tests, marksOf("ab|c!&"), []int{2, 0, 1}, state); got != want {
			t.Fatal(state, got, want)
		}
	}
	for cost := 1; cost <= 9; cost++ {
		for state := range 2 {
			if got := impl.CostIn([]impl.Test{{Cost: cost, Chance: 1}}, marksOf("a"), []int{0}, state); got != cost {
				t.Fatal("one test alone", cost, state, got)
			}
		}
	}
}

func TestCostInOfOthers(t *testing.T) {
	for _, tests := range badTests() {
		for _, signs := range []string{"a", "aa!|", "aa!&"} {
			for _, state := range []int{0, 1, 31} {
				if got := impl.CostIn(tests, marksOf(signs), ascending(len(tests)), state); got != -1 {
					t.Fatal(tests, signs, state, got)
				}
			}
		}
	}
	eachNotOrdered(func(many int, term []impl.Mark, order []int, state int) {
		if many < 1 || many > 5 {
			return
		}
		if got := impl.CostIn(equalTests(many, 2), term, order, state); got != -1 {
			t.Fatal(many, term, order, state, got)
		}
	})
}

// Promise 28.

func TestAveragesAreSumsOverStates(t *testing.T) {
	eachOrdered(func(tests []impl.Test, term []impl.Mark, order []int) {
		sum := 0
		for state := range power(2, len(tests)) {
			sum += impl.WeightOf(tests, state) * impl.CostIn(tests, term, order, state)
		}
		got, want := impl.AverageIn(tests, term, order), averageIn(tests, truthOf(len(tests), term), order)
		if got != want || got != sum {
			t.Fatal(tests, term, order, got, want, sum)
		}
	})
}

func TestAverageOfTheDualByTheOtherTests(t *testing.T) {
	eachOrdered(func(tests []impl.Test, term []impl.Mark, order []int) {
		got, dual := impl.AverageIn(tests, term, order), impl.DualTerm(len(tests), term)
		if got < 0 || impl.AverageIn(impl.OtherTests(tests), dual, order) != got {
			t.Fatal(tests, term, order, got)
		}
	})
}

func TestAverageInSomeOrders(t *testing.T) {
	tests := []impl.Test{{Cost: 2, Chance: 3}, {Cost: 5, Chance: 1}, {Cost: 1, Chance: 2}}
	// For all of three tests an order costs the first one, the second one behind a yes, and the third one behind two.
	for _, average := range []struct {
		signs string
		order []int
		want  int
	}{
		{"ab|c!&", []int{2, 0, 1}, 864}, {"ab&c&", []int{0, 1, 2}, 216*2 + 108*5 + 18}, {"ab&c&", []int{2, 1, 0}, 216 + 72*5 + 12*2}, {"abc||", []int{0, 1, 2}, 216*2 + 108*5 + 90},
		{"a", []int{0, 1, 2}, 216 * 2}, {"a", []int{1, 0, 2}, 216 * 7}, {"a", []int{1, 2, 0}, 216 * 8}, {"ab!&a!b&|", []int{2, 1, 0}, 216 * 8}, {"ab!&a!b&|", []int{1, 0, 2}, 216 * 7},
	} {
		if got := impl.AverageIn(tests, marksOf(average.signs), average.order); got != average.want {
			t.Fatal(average, got)
		}
	}
	eachTests(func(tests []impl.Test) {
		all := power(6, len(tests))
		for at, test := range tests {
			first := exchanged(ascending(len(tests)), 0, at)
			if got := impl.AverageIn(tests, marksOf("abcde"[at:at+1]), first); got != all*test.Cost {
				t.Fatal("one test alone", tests, first, got)
			}
			if got := impl.AverageIn(tests, marksOf("abcde"[at:at+1]), reversed(first)); got != all*impl.CostOf(tests) {
				t.Fatal("one test alone, at the end", tests, first, got)
			}
		}
	})
}

func TestAverageInOfOthers(t *testing.T) {
	for _, tests := range badTests() {
		for _, signs := range []string{"a", "aa!|", "aa!&"} {
			if got := impl.AverageIn(tests, marksOf(signs), ascending(len(tests))); got != -1 {
				t.Fatal(tests, signs, got)
			}
		}
	}
	eachNotOrdered(func(many int, term []impl.Mark, order []int, state int) {
		if many < 1 || many > 5 || !impl.StateOk(many, state) {
			return
		}
		if got := impl.AverageIn(equalTests(many, 2), term, order); got != -1 {
			t.Fatal(many, term, order, got)
		}
	})
}

// Promise 29.

func TestBestOrdersOfSomeTerms(t *testing.T) {
	tests := []impl.Test{{Cost: 2, Chance: 3}, {Cost: 5, Chance: 1}, {Cost: 1, Chance: 2}}
	dear := []impl.Test{{Cost: 9, Chance: 1}, {Cost: 1, Chance: 5}}
	for _, best := range []struct {
		tests []impl.Test
		signs string
		want  []int
		least int
	}{
		{tests, "ab|c!&", []int{2, 0, 1}, 864}, {tests, "ab&a!c&|", []int{0, 2, 1}, 1188},
		{tests, "a", []int{0, 1, 2}, 216 * 2}, {tests, "b", []int{1, 0, 2}, 216 * 5}, {tests, "c!", []int{2, 0, 1}, 216},
		{tests, "bc&", []int{2, 1, 0}, 216 + 72*5}, {tests, "ca&", []int{2, 0, 1}, 216 + 72*2}, {tests, "aa!&b|", []int{1, 0, 2}, 216 * 5},
		{dear, "ab&", []int{1, 0}, 36 + 30*9}, {dear, "ab|", []int{1, 0}, 36 + 6*9}, {dear, "ab!&", []int{1, 0}, 36 + 6*9}, {dear, "ab!&a!b&|", []int{0, 1}, 360},
	} {
		if got, least := impl.BestOrder(best.tests, marksOf(best.signs)); !slices.Equal(got, best.want) || least != best.least {
			t.Fatal(best, got, least)
		}
	}
}

func TestTheFirstOfTheBestOrdersIsTold(t *testing.T) {
	eachTested(func(tests []impl.Test, term []impl.Mark) {
		want, least := bestIn(tests, truthOf(len(tests), term))
		if got, average := impl.BestOrder(tests, term); !slices.Equal(got, want) || average != least {
			t.Fatal(tests, term, got, average, want, least)
		}
	})
}

func TestNoOrderCostsLess(t *testing.T) {
	eachTested(func(tests []impl.Test, term []impl.Mark) {
		best, least := impl.BestOrder(tests, term)
		if !impl.OrderOk(len(tests), best) || impl.AverageIn(tests, term, best) != least {
			t.Fatal("not what is told", tests, term, best, least)
		}
		for _, order := range ordersOf(len(tests)) {
			average := impl.AverageIn(tests, term, order)
			if average < least || average == least && slices.Compare(order, best) < 0 {
				t.Fatal(tests, term, best, least, order, average)
			}
		}
	})
}

func TestNeighboursExchangedCostNoLess(t *testing.T) {
	eachTested(func(tests []impl.Test, term []impl.Mark) {
		many := len(tests)
		best, least := impl.BestOrder(tests, term)
		for at := range many - 1 {
			order, ok := impl.SwappedOrder(many, best, at)
			if !ok || impl.AverageIn(tests, term, order) < least {
				t.Fatal(tests, term, best, least, order, ok)
			}
		}
	})
}

func TestOfEqualTestsTheFirstOnesAreAskedFirst(t *testing.T) {
	for many := 1; many <= 5; many++ {
		for chance := 1; chance <= 5; chance++ {
			for _, sign := range []string{"&", "|"} {
				term := marksOf("a")
				least, whole := 0, power(6, many)
				for at := range many {
					if at > 0 {
						term = slices.Concat(term, marksOf("abcde"[at:at+1]+sign))
					}
					least += 9 * whole
					whole = whole / 6 * map[string]int{"&": chance, "|": 6 - chance}[sign]
				}
				if order, average := impl.BestOrder(equalTests(many, chance), term); !slices.Equal(order, ascending(many)) || average != least {
					t.Fatal(many, chance, sign, order, average, least)
				}
			}
		}
	}
}

func TestOfEqualTestsBehindADearOneTheFirstOnesAreAskedFirst(t *testing.T) {
	all := marksOf("abcde&&&&")
	for dear := range 5 {
		tests := slices.Repeat([]impl.Test{{Cost: 1, Chance: 2}}, 5)
		tests[dear] = impl.Test{Cost: 9, Chance: 5}
		want := append(slices.Delete(ascending(5), dear, dear+1), dear)
		if order, _ := impl.BestOrder(tests, all); !slices.Equal(order, want) {
			t.Fatal(tests, order, want)
		}
	}
}

func TestBestOrderOfTheDualByTheOtherTests(t *testing.T) {
	eachTested(func(tests []impl.Test, term []impl.Mark) {
		order, average := impl.BestOrder(tests, term)
		other, same := impl.BestOrder(impl.OtherTests(tests), impl.DualTerm(len(tests), term))
		if !slices.Equal(order, other) || average != same {
			t.Fatal(tests, term, order, average, other, same)
		}
	})
}

func TestBestOrderOfOthers(t *testing.T) {
	for _, tests := range badTests() {
		for _, term := range append(badTerms(), marksOf("a"), marksOf("aa!|"), marksOf("abcde&&&&")) {
			if order, average := impl.BestOrder(tests, term); len(order) != 0 || average != -1 {
				t.Fatal(tests, term, order, average)
			}
		}
	}
	eachNoTerm(func(many int, term []impl.Mark) {
		if many < 1 || many > 5 {
			return
		}
		if order, average := impl.BestOrder(equalTests(many, 2), term); len(order) != 0 || average != -1 {
			t.Fatal(many, term, order, average)
		}
	})
}

// Promise 30.

func TestExchangedTwiceItIsAsBefore(t *testing.T) {
	for many := 1; many <= 5; many++ {
		for _, order := range ordersOf(many) {
			for at := range many - 1 {
				got, ok := impl.SwappedOrder(many, order, at)
				if !ok || !slices.Equal(got, exchanged(order, at, at+1)) || !impl.OrderOk(many, got) {
					t.Fatal(order, at, got, ok)
				}
				if again, ok := impl.SwappedOrder(many, got, at); !ok || !slices.Equal(again, order) {
					t.Fatal("twice", order, at, again, ok)
				}
			}
		}
	}
}

func TestBehindTheLastPlaceThereIsNoNextOne(t *testing.T) {
	for many := 1; many <= 5; many++ {
		for _, order := range ordersOf(many) {
			for _, at := range append(farNumbers(), -3, many-1, many, many+1) {
				if got, ok := impl.SwappedOrder(many, order, at); ok || len(got) != 0 {
					t.Fatal(order, at, got, ok)
				}
			}
		}
	}
}

func TestSwappedOrderOfOthers(t *testing.T) {
	for many := 1; many <= 5; many++ {
		for _, row := range badOrders(many) {
			for _, at := range append(farNumbers(), 0, 1, many-2, many-1, many) {
				if got, ok := impl.SwappedOrder(many, row, at); ok || len(got) != 0 {
					t.Fatal(many, row, at, got, ok)
				}
			}
		}
	}
	for _, many := range badMany() {
		for length := range 9 {
			for _, at := range []int{-1, 0, 1, length - 2} {
				if got, ok := impl.SwappedOrder(many, ascending(length), at); ok || len(got) != 0 {
					t.Fatal(many, length, at, got, ok)
				}
			}
		}
	}
}

// Promise 31.

// withLast is an order with a test moved to its end.
func withLast(order []int, test int) []int {
	at := slices.Index(order, test)
	return append(slices.Delete(slices.Clone(order), at, at+1), test)
}

func TestTestsThatNeverMatterComeBestLast(t *testing.T) {
	eachOrdered(func(tests []impl.Test, term []impl.Mark, order []int) {
		many := len(tests)
		idle := impl.IdleTests(many, term)
		before := impl.AverageIn(tests, term, order)
		for _, test := range order {
			last := withLast(order, test)
			if saysYes(idle, test) && impl.AverageIn(tests, term, last) > before {
				t.Fatal(tests, term, order, last, before)
			}
		}
	})
}

func TestTestsThatNeverMatterAreNotAskedAtTheEnd(t *testing.T) {
	eachOrdered(func(tests []impl.Test, term []impl.Mark, order []int) {
		many := len(tests)
		idle, last := impl.IdleTests(many, term), slices.Clone(order)
		for _, test := range order {
			if saysYes(idle, test) {
				last = withLast(last, test)
			}
		}
		matter := many - bits.OnesCount(uint(idle))
		for state := range power(2, many) {
			if got := impl.AskedIn(many, term, last, state); got > matter {
				t.Fatal(tests, term, last, state, got)
			}
		}
	})
}

// General rules: results are new memory, arguments are never written to, and no call leaves anything behind for the next one.

func TestResultsOfOrdersAreNewMemory(t *testing.T) {
	room := []int{3, 1, 0, 2, 7, 7, 7}
	roomBefore := slices.Clone(room)
	order, tests, term := room[:4], turnedTests(4, 3), marksOf("ab&cd&|")
	for _, result := range []func() []int{
		func() []int { best, _ := impl.BestOrder(tests, term); return best },
		func() []int { swapped, _ := impl.SwappedOrder(4, order, 2); return swapped },
	} {
		first, second := result(), result()
		before := slices.Clone(second)
		first = first[:cap(first)]
		for i := range first {
			first[i] = 77
		}
		if !slices.Equal(second, before) || !slices.Equal(result(), before) || !slices.Equal(room, roomBefore) {
			t.Fatal(second, before, room)
		}
	}
}

func TestArgumentsOfOrdersAreNotWrittenTo(t *testing.T) {
	eachOrdered(func(tests []impl.Test, term []impl.Mark, order []int) {
		marks, row := append(slices.Clone(term), nots(5)...), append(slices.Clone(order), 7, 7, 7)
		marksBefore, rowBefore, testsBefore := slices.Clone(marks), slices.Clone(row), slices.Clone(tests)
		first := ordersFor(tests, marks[:len(term)], row[:len(order)])
		if !slices.Equal(marks, marksBefore) || !slices.Equal(row, rowBefore) || !slices.Equal(tests, testsBefore) {
			t.Fatal(tests, marks, row)
		}
		if again := ordersFor(tests, marks[:len(term)], row[:len(order)]); !slices.Equal(first, again) {
			t.Fatal("called again", tests, term, order, first, again)
		}
	})
}

// ordersFor calls all functions of the chapter and returns their numbers.
func ordersFor(tests []impl.Test, term []impl.Mark, order []int) []int {
	many := len(tests)
	best, least := impl.BestOrder(tests, term)
	swapped, _ := impl.SwappedOrder(many, order, 0)
	answers := slices.Concat(best, swapped, []int{least, impl.AverageIn(tests, term, order)})
	for state := range power(2, many) {
		answers = append(answers, impl.AskedIn(many, term, order, state), impl.CostIn(tests, term, order, state))
	}
	if impl.OrderOk(many, order) {
		answers = append(answers, -2)
	}
	return answers
}
