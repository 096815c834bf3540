package tests

import (
	"slices"
	"testing"

	"loop.example/checksinorder/impl"
)

// Promise 66.

func TestFirstRatiosOfSomeChains(t *testing.T) {
	tests := []impl.Test{{Cost: 2, Chance: 3}, {Cost: 5, Chance: 1}, {Cost: 1, Chance: 4}}
	hidden := []impl.Test{{Cost: 9, Chance: 5}, {Cost: 1, Chance: 1}, {Cost: 3, Chance: 3}}
	for _, first := range []struct {
		tests      []impl.Test
		chains     [][]int
		at, many   int
		cost, ends int
	}{
		{hidden, [][]int{{0, 1}, {2}}, 0, 1, 54, 1}, {hidden, [][]int{{0, 1}, {2}}, 0, 2, 354, 31}, {hidden, [][]int{{0, 1}, {2}}, 1, 1, 18, 3}, {hidden, [][]int{{2}, {0, 1}}, 1, 2, 354, 31},
		{tests, [][]int{{1, 0}, {2}}, 0, 1, 30, 5}, {tests, [][]int{{1, 0}, {2}}, 0, 2, 5*36 + 2*6, 36 - 3}, {tests, [][]int{{1, 0}, {2}}, 1, 1, 6, 2},
		{tests, [][]int{{2, 0, 1}}, 0, 1, 6, 2}, {tests, [][]int{{2, 0, 1}}, 0, 2, 36 + 2*4*6, 36 - 12}, {tests, [][]int{{2, 0, 1}}, 0, 3, 216 + 2*4*36 + 5*12*6, 216 - 12}, {tests, [][]int{{0, 1, 2}}, 0, 3, 2*216 + 5*3*36 + 3*6, 216 - 12},
		{[]impl.Test{{Cost: 1, Chance: 1}}, [][]int{{0}}, 0, 1, 6, 5}, {[]impl.Test{{Cost: 9, Chance: 5}}, [][]int{{0}}, 0, 1, 54, 1},
		{equalTests(5, 5), [][]int{{4, 2, 0, 1, 3}}, 0, 1, 54, 1}, {equalTests(5, 5), [][]int{{4, 2, 0, 1, 3}}, 0, 4, 9 * (1296 + 5*216 + 25*36 + 125*6), 1296 - 625}, {equalTests(5, 5), [][]int{{4, 2, 0, 1, 3}}, 0, 5, 9 * (7776 + 5*1296 + 25*216 + 125*36 + 625*6), 7776 - 3125},
		{equalTests(5, 1), [][]int{{0, 1, 2, 3, 4}}, 0, 5, 9 * (7776 + 1296 + 216 + 36 + 6), 7775}, {equalTests(5, 3), [][]int{{0}, {3}, {2, 4, 1}}, 2, 3, 9 * (216 + 3*36 + 9*6), 216 - 27}, {equalTests(5, 3), [][]int{{0}, {3}, {2, 4, 1}}, 2, 2, 9 * (36 + 18), 27},
	} {
		if cost, ends, ok := impl.FirstRatio(first.tests, first.chains, first.at, first.many); !ok || cost != first.cost || ends != first.ends {
			t.Fatal(first, cost, ends, ok)
		}
	}
}

// eachPart calls visit for eachChained and all first parts of all chains.
func eachPart(visit func(tests []impl.Test, chains [][]int, at, many int)) {
	eachChained(func(tests []impl.Test, chains [][]int) {
		for at, chain := range chains {
			for many := 1; many <= len(chain); many++ {
				visit(tests, chains, at, many)
			}
		}
	})
}

func TestFirstRatiosAreSumsOverStates(t *testing.T) {
	eachPart(func(tests []impl.Test, chains [][]int, at, many int) {
		cost, ends, ok := impl.FirstRatio(tests, chains, at, many)
		others := power(6, len(tests)-many)
		wantCost, wantEnds := partIn(tests, chains[at][:many])
		if !ok || cost*others != wantCost || ends*others != wantEnds {
			t.Fatal(tests, chains, at, many, cost, ends, ok, wantCost, wantEnds)
		}
	})
}

func TestAFirstPartOfOneIsItsTest(t *testing.T) {
	eachChained(func(tests []impl.Test, chains [][]int) {
		for at, chain := range chains {
			test := tests[chain[0]]
			if cost, ends, ok := impl.FirstRatio(tests, chains, at, 1); !ok || cost != 6*test.Cost || ends != 6-test.Chance {
				t.Fatal(tests, chains, at, cost, ends, ok)
			}
		}
	})
}

func TestOneMoreTestCostsMoreAndEndsNoLess(t *testing.T) {
	eachPart(func(tests []impl.Test, chains [][]int, at, many int) {
		if many == 1 {
			return
		}
		costBefore, endsBefore, okBefore := impl.FirstRatio(tests, chains, at, many-1)
		cost, ends, ok := impl.FirstRatio(tests, chains, at, many)
		if !okBefore || !ok || 6*costBefore >= cost || 6*endsBefore >= ends || ends >= power(6, many) {
			t.Fatal(tests, chains, at, many, costBefore, endsBefore, cost, ends)
		}
	})
}

func TestFirstPartsAreRows(t *testing.T) {
	eachPart(func(tests []impl.Test, chains [][]int, at, many int) {
		var members []impl.Test
		for _, member := range chains[at][:many] {
			members = append(members, tests[member])
		}
		cost, ends, ok := impl.FirstRatio(tests, chains, at, many)
		wantCost, allYes := impl.RowAverage(members, ascending(many), impl.RowAnd), impl.TrueWeight(members, rowOf(many, impl.RowAnd))
		if !ok || cost != wantCost || ends != power(6, many)-allYes {
			t.Fatal(tests, chains, at, many, cost, ends, ok, wantCost, allYes)
		}
	})
}

func TestTheFirstPartOfAllCostsWhatTheChainDoes(t *testing.T) {
	for _, tests := range rowTests() {
		many := len(tests)
		for _, chain := range [][]int{ascending(many), reversed(ascending(many))} {
			cost, ends, ok := impl.FirstRatio(tests, [][]int{chain}, 0, many)
			if !ok || cost != rowAverageIn(tests, chain, impl.RowAnd) || ends != power(6, many)-impl.WeightOf(tests, power(2, many)-1) {
				t.Fatal(tests, chain, cost, ends, ok)
			}
		}
	}
}

func TestNoFirstRatioWhereThereIsNoFirstPart(t *testing.T) {
	eachGroups(func(many int, chains [][]int) {
		tests := turnedTests(many, 3)
		eachNoPart(chains, func(at, first int) {
			if cost, ends, ok := impl.FirstRatio(tests, chains, at, first); cost != 0 || ends != 0 || ok {
				t.Fatal(chains, at, first, cost, ends, ok)
			}
		})
	})
}

func TestFirstRatioOfOthers(t *testing.T) {
	eachNoGrouped(func(tests []impl.Test, chains [][]int) {
		for at := -1; at <= min(len(chains), 6); at++ {
			for many := 0; many <= 6; many++ {
				if cost, ends, ok := impl.FirstRatio(tests, chains, at, many); cost != 0 || ends != 0 || ok {
					t.Fatal(tests, chains, at, many, cost, ends, ok)
				}
			}
		}
	})
}

// Promise 67.

func TestSomeOrdersThatKeepChains(t *testing.T) {
	for _, kept := range []struct {
		many   int
		chains [][]int
		orders [][]int
		want   bool
	}{
		{3, [][]int{{0, 1}, {2}}, [][]int{{2, 0, 1}, {0, 2, 1}, {0, 1, 2}}, true}, {3, [][]int{{0, 1}, {2}}, [][]int{{2, 1, 0}, {1, 2, 0}, {1, 0, 2}}, false},
		{3, [][]int{{2}, {1, 0}}, [][]int{{2, 1, 0}, {1, 2, 0}, {1, 0, 2}}, true}, {3, [][]int{{2}, {1, 0}}, [][]int{{2, 0, 1}, {0, 2, 1}, {0, 1, 2}}, false},
		{3, [][]int{{2, 0, 1}}, [][]int{{2, 0, 1}}, true}, {3, [][]int{{2, 0, 1}}, [][]int{{0, 2, 1}, {2, 1, 0}, {1, 2, 0}, {0, 1, 2}, {1, 0, 2}}, false},
		{5, [][]int{{3, 1}, {0, 4}, {2}}, [][]int{{3, 1, 0, 4, 2}, {0, 4, 3, 2, 1}, {2, 3, 0, 1, 4}, {0, 3, 4, 1, 2}}, true}, {5, [][]int{{3, 1}, {0, 4}, {2}}, [][]int{{1, 3, 0, 4, 2}, {3, 1, 4, 0, 2}, {4, 3, 2, 0, 1}, {0, 4, 1, 2, 3}}, false},
		{5, [][]int{{4, 2, 0, 3}, {1}}, [][]int{{4, 2, 0, 3, 1}, {4, 1, 2, 0, 3}, {1, 4, 2, 0, 3}}, true}, {5, [][]int{{4, 2, 0, 3}, {1}}, [][]int{{2, 4, 0, 3, 1}, {4, 1, 0, 2, 3}, {4, 2, 1, 3, 0}, {1, 3, 4, 2, 0}, {4, 0, 3, 2, 1}}, false},
		{1, [][]int{{0}}, [][]int{{0}}, true}, {2, [][]int{{0}, {1}}, [][]int{{0, 1}, {1, 0}}, true}, {2, [][]int{{1, 0}}, [][]int{{0, 1}}, false},
	} {
		for _, order := range kept.orders {
			if impl.KeepsChains(kept.many, kept.chains, order) != kept.want {
				t.Fatal(kept, order)
			}
		}
	}
}

func TestEachOrderKeepsChainsOfOne(t *testing.T) {
	for many := 1; many <= 5; many++ {
		for _, order := range ordersOf(many) {
			for _, turned := range ordersOf(many) {
				var chains [][]int
				for _, at := range turned {
					chains = append(chains, []int{at})
				}
				if !impl.KeepsChains(many, chains, order) {
					t.Fatal(many, chains, order)
				}
			}
		}
	}
}

func TestJustTheChainItselfKeepsOneChainOfAll(t *testing.T) {
	for many := 1; many <= 5; many++ {
		for _, chain := range ordersOf(many) {
			for _, order := range ordersOf(many) {
				if impl.KeepsChains(many, [][]int{chain}, order) != slices.Equal(chain, order) {
					t.Fatal(many, chain, order)
				}
			}
		}
	}
}

func TestOrdersKeepChainsThatStandInThem(t *testing.T) {
	eachGroups(func(many int, chains [][]int) {
		// Each chain may stand in just one of the orders of its tests.
		want := len(ordersOf(many))
		for _, chain := range chains {
			want /= len(ordersOf(len(chain)))
		}
		kept := 0
		for _, order := range ordersOf(many) {
			got := impl.KeepsChains(many, chains, order)
			if got != keepsIn(chains, order) {
				t.Fatal(many, chains, order, got)
			}
			if got {
				kept++
			}
		}
		if kept != want {
			t.Fatal(many, chains, kept, want)
		}
	})
}

func TestKeepsChainsOfOthers(t *testing.T) {
	eachNotKept(func(many int, chains [][]int, order []int) {
		if impl.KeepsChains(many, chains, order) {
			t.Fatal(many, chains, order)
		}
	})
}

// Promise 68.

func TestSomeOrdersOfChains(t *testing.T) {
	tests := []impl.Test{{Cost: 2, Chance: 3}, {Cost: 5, Chance: 1}, {Cost: 1, Chance: 4}}
	hidden := []impl.Test{{Cost: 9, Chance: 5}, {Cost: 1, Chance: 1}, {Cost: 3, Chance: 3}, {Cost: 7, Chance: 3}}
	equal := []impl.Test{{Cost: 4, Chance: 4}, {Cost: 9, Chance: 2}, {Cost: 3, Chance: 3}}
	parted := []impl.Test{{Cost: 4, Chance: 5}, {Cost: 1, Chance: 1}, {Cost: 9, Chance: 5}, {Cost: 2, Chance: 1}, {Cost: 4, Chance: 2}}
	later := []impl.Test{{Cost: 7, Chance: 4}, {Cost: 8, Chance: 3}, {Cost: 1, Chance: 3}, {Cost: 8, Chance: 4}, {Cost: 9, Chance: 3}}
	for _, made := range []struct {
		tests  []impl.Test
		chains [][]int
		want   []int
	}{
		// 30/5, 192/33 and 6/2; 12/3, 162/33 and 6/2; 12/3, 90/24 and 30/5; 30/5, 186/32 and 12/3; 6/2 and 156/32, and 12/3.
		{tests, [][]int{{1, 0}, {2}}, []int{2, 1, 0}}, {tests, [][]int{{0, 1}, {2}}, []int{2, 0, 1}}, {tests, [][]int{{0, 2}, {1}}, []int{0, 2, 1}}, {tests, [][]int{{1, 2}, {0}}, []int{0, 1, 2}}, {tests, [][]int{{2, 1}, {0}}, []int{2, 0, 1}},
		{tests, [][]int{{1, 0, 2}}, []int{1, 0, 2}}, {tests, [][]int{{0}, {1}, {2}}, []int{2, 0, 1}}, {tests, [][]int{{1}, {2}, {0}}, []int{2, 0, 1}}, {tests[:1], [][]int{{0}}, []int{0}},
		// The cheap test behind the dear one: 354/31 against 18/3, and against 42/3.
		{hidden[:3], [][]int{{0, 1}, {2}}, []int{2, 0, 1}}, {[]impl.Test{hidden[0], hidden[1], hidden[3]}, [][]int{{2}, {0, 1}}, []int{0, 1, 2}},
		// 174/31; 6; and 384/31 behind it.
		{parted, [][]int{{0, 1, 2, 3}, {4}}, []int{0, 1, 4, 2, 3}}, {parted, [][]int{{4}, {0, 1, 2, 3}}, []int{0, 1, 4, 2, 3}},
		// 12 for both chains; 306/27, and then 21 for both.
		{equal, [][]int{{0}, {1, 2}}, []int{0, 1, 2}}, {equal, [][]int{{1, 2}, {0}}, []int{1, 2, 0}}, {later, [][]int{{0}, {1, 2, 3, 4}}, []int{1, 2, 0, 3, 4}}, {later, [][]int{{1, 2, 3, 4}, {0}}, []int{1, 2, 3, 4, 0}},
		{equalTests(5, 2), [][]int{{4, 1}, {2}, {3, 0}}, []int{4, 1, 2, 3, 0}}, {equalTests(5, 2), [][]int{{4}, {1}, {3}, {0}, {2}}, []int{4, 1, 3, 0, 2}},
	} {
		if got := impl.ChainOrder(made.tests, made.chains); !slices.Equal(got, made.want) {
			t.Fatal(made, got)
		}
	}
}

func TestTheFirstPartWithTheLeastRatioGoesNext(t *testing.T) {
	eachChained(func(tests []impl.Test, chains [][]int) {
		if got, want := impl.ChainOrder(tests, chains), chainOrderIn(tests, chains); !slices.Equal(got, want) {
			t.Fatal(tests, chains, got, want)
		}
	})
}

func TestNoOrderThatKeepsChainsIsBetter(t *testing.T) {
	eachChained(func(tests []impl.Test, chains [][]int) {
		order := impl.ChainOrder(tests, chains)
		if !impl.OrderOk(len(tests), order) || !impl.KeepsChains(len(tests), chains, order) || !keepsIn(chains, order) {
			t.Fatal(tests, chains, order)
		}
		if got, best := impl.RowAverage(tests, order, impl.RowAnd), impl.ChainBest(tests, chains); got != best || got <= 0 {
			t.Fatal(tests, chains, order, got, best)
		}
	})
}

func TestOfEqualFirstPartsThatOfTheChainAheadGoesNext(t *testing.T) {
	// All first parts of tests with equal ratios have this ratio, whatever they cost.
	for _, equal := range [][][2]int{{{1, 1}, {2, 2}, {3, 3}, {4, 4}, {5, 5}}, {{2, 1}, {4, 2}, {6, 3}, {8, 4}, {2, 1}}, {{9, 5}, {9, 5}, {9, 5}, {9, 5}, {9, 5}}} {
		eachGroups(func(many int, chains [][]int) {
			tests := endingTests(equal[:many], impl.RowAnd)
			if got := impl.ChainOrder(tests, chains); !slices.Equal(got, slices.Concat(chains...)) {
				t.Fatal(tests, chains, got)
			}
		})
	}
}

func TestChainsOfOneGoByTheirRatios(t *testing.T) {
	for _, tests := range rowTests() {
		many := len(tests)
		byRatios := impl.RatioOrder(tests, impl.RowAnd)
		want := impl.RowAverage(tests, byRatios, impl.RowAnd)
		if got := impl.ChainOrder(tests, ownGroups(many)); !slices.Equal(got, byRatios) {
			t.Fatal("in ascending order", tests, got, byRatios)
		}
		turned := impl.ChainOrder(tests, turnedRows(ownGroups(many)))
		if got := impl.RowAverage(tests, turned, impl.RowAnd); got != want || got <= 0 {
			t.Fatal("from the last one on", tests, turned, got, want)
		}
	}
}

func TestOneChainOfAllIsItsOrder(t *testing.T) {
	for many := 1; many <= 5; many++ {
		for turn, chain := range ordersOf(many) {
			for _, tests := range testLists(many, turn) {
				if got := impl.ChainOrder(tests, [][]int{chain}); !slices.Equal(got, chain) {
					t.Fatal(tests, chain, got)
				}
			}
		}
	}
}

func TestChainOrderOfOthers(t *testing.T) {
	eachNoGrouped(func(tests []impl.Test, chains [][]int) {
		if got := impl.ChainOrder(tests, chains); len(got) != 0 {
			t.Fatal(tests, chains, got)
		}
	})
}

// Promise 69.

func TestWhatSomeChainsCostAtBest(t *testing.T) {
	tests := []impl.Test{{Cost: 2, Chance: 3}, {Cost: 5, Chance: 1}, {Cost: 1, Chance: 4}}
	hidden := []impl.Test{{Cost: 9, Chance: 5}, {Cost: 1, Chance: 1}, {Cost: 3, Chance: 3}, {Cost: 7, Chance: 3}}
	parted := []impl.Test{{Cost: 4, Chance: 5}, {Cost: 1, Chance: 1}, {Cost: 9, Chance: 5}, {Cost: 2, Chance: 1}, {Cost: 4, Chance: 2}}
	for _, best := range []struct {
		tests  []impl.Test
		chains [][]int
		want   int
	}{
		{tests, [][]int{{1, 0}, {2}}, 216 + 4*192}, {tests, [][]int{{0, 1}, {2}}, 216 + 4*162}, {tests, [][]int{{0, 2}, {1}}, 6*90 + 5*12*6}, {tests, [][]int{{1, 2}, {0}}, 2*216 + 3*186}, {tests, [][]int{{2, 1}, {0}}, 216 + 4*162},
		{tests, [][]int{{1, 0, 2}}, 5*216 + 2*36 + 3*6}, {tests, [][]int{{0}, {1}, {2}}, 216 + 2*4*36 + 5*12*6}, {tests[:1], [][]int{{0}}, 12}, {[]impl.Test{{Cost: 9, Chance: 5}}, [][]int{{0}}, 54},
		{hidden[:3], [][]int{{0, 1}, {2}}, 3*216 + 3*354}, {[]impl.Test{hidden[0], hidden[1], hidden[3]}, [][]int{{2}, {0, 1}}, 6*354 + 7*5*6},
		{parted, [][]int{{0, 1, 2, 3}, {4}}, 4*7776 + 5*1296 + 4*5*216 + 9*10*36 + 2*50*6},
		{equalTests(5, 5), [][]int{{4, 2}, {0}, {1, 3}}, 9 * (7776 + 5*1296 + 25*216 + 125*36 + 625*6)}, {equalTests(5, 1), [][]int{{4, 2, 3, 0, 1}}, 9 * (7776 + 1296 + 216 + 36 + 6)},
	} {
		if got := impl.ChainBest(best.tests, best.chains); got != best.want {
			t.Fatal(best, got)
		}
	}
}

func TestTheBestOfChainsIsTheLeastOfAllOrdersThatKeepThem(t *testing.T) {
	eachChained(func(tests []impl.Test, chains [][]int) {
		if got, want := impl.ChainBest(tests, chains), chainBestIn(tests, chains); got != want {
			t.Fatal(tests, chains, got, want)
		}
	})
}

func TestChainsNeverHelp(t *testing.T) {
	dearer := 0
	eachChained(func(tests []impl.Test, chains [][]int) {
		byRatios := impl.RatioOrder(tests, impl.RowAnd)
		got, free := impl.ChainBest(tests, chains), impl.RowAverage(tests, byRatios, impl.RowAnd)
		if got < free || keepsIn(chains, byRatios) && got != free {
			t.Fatal(tests, chains, got, free)
		}
		if got > free {
			dearer++
		}
	})
	if dearer < 1000 {
		t.Fatal("too few chains that cost more", dearer)
	}
}

func TestOneChainOfAllCostsWhatItDoes(t *testing.T) {
	for many := 1; many <= 5; many++ {
		for turn, chain := range ordersOf(many) {
			for _, tests := range testLists(many, turn) {
				got := impl.ChainBest(tests, [][]int{chain})
				if want := impl.RowAverage(tests, chain, impl.RowAnd); got != want || got != rowAverageIn(tests, chain, impl.RowAnd) {
					t.Fatal(tests, chain, got, want)
				}
			}
		}
	}
}

func TestOneChainCutInTwoCostsNoMore(t *testing.T) {
	cheaper := 0
	eachChained(func(tests []impl.Test, chains [][]int) {
		got := impl.ChainBest(tests, chains)
		for at, chain := range chains {
			for behind := 1; behind < len(chain); behind++ {
				for _, to := range []int{0, at + 1, len(chains)} {
					cut := impl.ChainBest(tests, cutChain(chains, at, behind, to))
					if cut > got || cut <= 0 {
						t.Fatal(tests, chains, at, behind, to, got, cut)
					}
					if cut < got {
						cheaper++
					}
				}
			}
		}
	})
	if cheaper < 1000 {
		t.Fatal("too few that cost less", cheaper)
	}
}

func TestInWhichOrderChainsStandDoesNotMatterForTheBest(t *testing.T) {
	eachChained(func(tests []impl.Test, chains [][]int) {
		if got, turned := impl.ChainBest(tests, chains), impl.ChainBest(tests, turnedRows(chains)); got != turned || got <= 0 {
			t.Fatal(tests, chains, got, turned)
		}
	})
}

func TestChainBestOfOthers(t *testing.T) {
	eachNoGrouped(func(tests []impl.Test, chains [][]int) {
		if got := impl.ChainBest(tests, chains); got != -1 {
			t.Fatal(tests, chains, got)
		}
	})
}

// Promise 70.

func TestLongerChainsCostNoLess(t *testing.T) {
	dearer, same := 0, 0
	eachChained(func(tests []impl.Test, chains [][]int) {
		if len(chains) == 1 {
			return
		}
		joined := joinedChain(chains)
		got, longer := impl.ChainBest(tests, chains), impl.ChainBest(tests, joined)
		if longer < got || got <= 0 {
			t.Fatal(tests, chains, got, longer)
		}
		// The orders that keep the longer chain keep the shorter ones; so both cost the same if such an order is a best one.
		if order := impl.ChainOrder(tests, chains); keepsIn(joined, order) && longer != got {
			t.Fatal(tests, chains, order, got, longer)
		}
		if longer > got {
			dearer++
		} else {
			same++
		}
	})
	if dearer < 1000 || same < 1000 {
		t.Fatal("too few that cost more, or the same", dearer, same)
	}
}

func TestWhatSomeLongerChainsCost(t *testing.T) {
	tests := []impl.Test{{Cost: 2, Chance: 3}, {Cost: 5, Chance: 1}, {Cost: 1, Chance: 4}}
	for _, joined := range []struct {
		chains       [][]int
		want, longer int
	}{
		{[][]int{{0}, {1}, {2}}, 864, 216 + 4*162}, {[][]int{{1}, {0}, {2}}, 864, 216 + 4*192}, {[][]int{{1, 0}, {2}}, 984, 5*216 + 2*36 + 3*6}, {[][]int{{2}, {1, 0}}, 984, 984}, {[][]int{{2}, {0, 1}}, 864, 864}, {[][]int{{0, 2}, {1}}, 900, 900},
	} {
		if got, longer := impl.ChainBest(tests, joined.chains), impl.ChainBest(tests, joinedChain(joined.chains)); got != joined.want || longer != joined.longer {
			t.Fatal(joined, got, longer)
		}
	}
}

// General rules: results are new memory, arguments are never written to, and no call leaves anything behind for the next one.

func TestResultsOfChainsAreNewMemory(t *testing.T) {
	eachGroups(func(many int, chains [][]int) {
		tests, chainsBefore := turnedTests(many, 3), copied(chains)
		order := impl.ChainOrder(tests, chains)
		orderBefore := slices.Clone(order)
		overwrite(order, 77)
		if !equalRows(chains, chainsBefore) || !slices.Equal(impl.ChainOrder(tests, chains), orderBefore) {
			t.Fatal(many, chains)
		}
	})
}

func TestArgumentsOfChainsAreNotWrittenTo(t *testing.T) {
	eachChained(func(tests []impl.Test, chains [][]int) {
		checkArgumentsStay(t, tests, chains, chainsFor)
	})
	eachGroups(func(many int, chains [][]int) {
		for _, order := range [][]int{ascending(many), slices.Concat(chains...)} {
			longOrder := append(slices.Clone(order), 7)
			kept := impl.KeepsChains(many, chains, longOrder[:many])
			if !slices.Equal(longOrder[:many], order) || longOrder[many] != 7 || impl.KeepsChains(many, chains, order) != kept {
				t.Fatal(many, chains, longOrder)
			}
		}
	})
}

// chainsFor calls all functions of the chapter and returns their numbers.
func chainsFor(tests []impl.Test, chains [][]int) []int {
	answers := append(impl.ChainOrder(tests, chains), impl.ChainBest(tests, chains))
	for at, chain := range chains {
		for many := range chain {
			cost, ends, _ := impl.FirstRatio(tests, chains, at, many+1)
			answers = append(answers, cost, ends)
		}
	}
	if impl.KeepsChains(len(tests), chains, ascending(len(tests))) {
		answers = append(answers, -2)
	}
	return answers
}
