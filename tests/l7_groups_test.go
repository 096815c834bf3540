package tests

import (
	"math/big"
	"slices"
	"testing"

	"loop.example/checksinorder/impl"
)

// Promise 51.

func TestAllGroupsOfTestsAreGroups(t *testing.T) {
	often := map[int]int{}
	eachGroups(func(many int, groups [][]int) {
		often[many]++
		if !impl.GroupsOk(many, groups) {
			t.Fatal(many, groups)
		}
	})
	// Each order of all tests, cut or not at each place between two of them.
	for many, want := range []int{0, 1, 4, 24, 192, 1920} {
		if often[many] != want {
			t.Fatal(many, often[many])
		}
	}
}

func TestOneGroupOfAllIsGroups(t *testing.T) {
	for many := 1; many <= 5; many++ {
		for _, order := range ordersOf(many) {
			if !impl.GroupsOk(many, [][]int{order}) {
				t.Fatal(many, order)
			}
		}
	}
}

func TestEachTestAsItsOwnGroupIsGroups(t *testing.T) {
	for many := 1; many <= 5; many++ {
		for _, groups := range [][][]int{ownGroups(many), turnedRows(ownGroups(many))} {
			if !impl.GroupsOk(many, groups) {
				t.Fatal(many, groups)
			}
		}
	}
}

func TestTheLastGroupMayBeTheFirstOne(t *testing.T) {
	eachGroups(func(many int, groups [][]int) {
		if !impl.GroupsOk(many, turnedRows(groups)) {
			t.Fatal(many, groups)
		}
	})
	eachNoGroups(func(many int, groups [][]int) {
		if impl.GroupsOk(many, turnedRows(groups)) {
			t.Fatal(many, groups)
		}
	})
}

func TestGroupsOkOfOthers(t *testing.T) {
	eachNoGroups(func(many int, groups [][]int) {
		if impl.GroupsOk(many, groups) {
			t.Fatal(many, groups)
		}
	})
}

func TestGroupsAreOfJustSoManyTests(t *testing.T) {
	eachGroups(func(many int, groups [][]int) {
		for other := -1; other <= 7; other++ {
			if other != many && impl.GroupsOk(other, groups) {
				t.Fatal(many, groups, other)
			}
		}
	})
}

// eachChangedGroups calls visit for rows that differ from groups in just one number, in one number or one row fewer or more, or in two rows put together.
func eachChangedGroups(many int, groups [][]int, visit func(changed [][]int)) {
	for i, row := range groups {
		for j := range row {
			for number := -1; number <= many+1; number++ {
				changed := copied(groups)
				changed[i][j] = number
				visit(changed)
				changed[i] = slices.Insert(changed[i], j, number)
				visit(changed)
			}
			changed := copied(groups)
			changed[i] = slices.Delete(changed[i], j, j+1)
			visit(changed)
		}
		visit(slices.Delete(copied(groups), i, i+1))
		visit(slices.Insert(copied(groups), i, []int{}))
		visit(append(copied(groups), row))
		if i > 0 {
			changed := copied(groups)
			changed[i-1] = append(changed[i-1], row...)
			visit(changed)
			visit(slices.Delete(changed, i, i+1))
		}
	}
}

func TestChangedGroupsAreSeldomGroups(t *testing.T) {
	some := 0
	eachGroups(func(many int, groups [][]int) {
		eachChangedGroups(many, groups, func(changed [][]int) {
			want := areGroups(many, changed)
			if impl.GroupsOk(many, changed) != want || impl.GroupsOk(many, turnedRows(changed)) != want {
				t.Fatal(many, groups, changed, want)
			}
			if want && !equalRows(groups, changed) {
				some++
			}
		})
	})
	if some < 100 {
		t.Fatal("too few that are groups again", some)
	}
}

func TestAllRowsOfAFewNumbers(t *testing.T) {
	for many, want := range []int{0, 1, 4, 24} {
		var rows [][]int
		for length := 0; length <= max(many, 2); length++ {
			rows = append(rows, rowsOf(length, min(many-2, 0), many)...)
		}
		for length := range 4 {
			for _, turns := range rowsOf(length, 0, len(rows)-1) {
				groups := make([][]int, length)
				for i, turn := range turns {
					groups[i] = rows[turn]
				}
				got := impl.GroupsOk(many, groups)
				if got != areGroups(many, groups) {
					t.Fatal(many, groups, got)
				}
				if got {
					want--
				}
			}
		}
		if want != 0 {
			t.Fatal(many, want)
		}
	}
}

// Promise 52.

func TestTermsOfSomeGroups(t *testing.T) {
	for _, term := range []struct {
		many   int
		groups [][]int
		signs  string
		text   string
	}{
		{1, [][]int{{0}}, "a", "a"}, {3, [][]int{{1, 0}, {2}}, "ba|c&", "(b|a)&c"}, {3, [][]int{{2}, {1, 0}}, "cba|&", "c&(b|a)"},
		{2, [][]int{{0, 1}}, "ab|", "a|b"}, {2, [][]int{{1, 0}}, "ba|", "b|a"}, {2, [][]int{{1}, {0}}, "ba&", "b&a"},
		{5, [][]int{{0, 1, 2, 3, 4}}, "ab|c|d|e|", "a|b|c|d|e"}, {5, [][]int{{0}, {1}, {2}, {3}, {4}}, "ab&c&d&e&", "a&b&c&d&e"},
		{5, [][]int{{3, 1}, {0, 4}, {2}}, "db|ae|&c&", "(d|b)&(a|e)&c"}, {5, [][]int{{4, 2, 0}, {1, 3}}, "ec|a|bd|&", "(e|c|a)&(b|d)"}, {4, [][]int{{3}, {2, 1, 0}}, "dcb|a|&", "d&(c|b|a)"},
	} {
		got := impl.GroupTerm(term.many, term.groups)
		if !slices.Equal(got, marksOf(term.signs)) || impl.TermText(term.many, got) != term.text {
			t.Fatal(term, got)
		}
	}
}

func TestTermsOfGroupsReadEachTestOnce(t *testing.T) {
	eachGroups(func(many int, groups [][]int) {
		term := impl.GroupTerm(many, groups)
		if !impl.TermOk(many, term) || !impl.OnceOk(many, term) || impl.LettersOf(many, term) != power(2, many)-1 || len(term) != 2*many-1 {
			t.Fatal(many, groups, term)
		}
	})
}

func TestTermsOfGroupsReadTheTestsAsTheyStand(t *testing.T) {
	eachGroups(func(many int, groups [][]int) {
		var read []int
		for _, mark := range impl.GroupTerm(many, groups) {
			if mark.Kind == impl.MarkTest {
				read = append(read, mark.At)
			}
		}
		if !slices.Equal(read, slices.Concat(groups...)) {
			t.Fatal(many, groups, read)
		}
	})
}

func TestGroupsAreTrueIfEachOneHasAYes(t *testing.T) {
	eachGroups(func(many int, groups [][]int) {
		term := impl.GroupTerm(many, groups)
		for state := range power(2, many) {
			hasNone := slices.ContainsFunc(groups, func(row []int) bool { return !hasYesIn(row, state) })
			if impl.ValueOf(many, term, state) == hasNone {
				t.Fatal(many, groups, term, state)
			}
		}
	})
}

func TestOneGroupOfAllIsTheRowOfOneAndOwnGroupsThatOfAll(t *testing.T) {
	for many := 1; many <= 5; many++ {
		one, own := impl.GroupTerm(many, oneGroup(many)), impl.GroupTerm(many, ownGroups(many))
		if len(one) == 0 || !slices.Equal(one, impl.RowTerm(many, impl.RowOr)) {
			t.Fatal("one group", many, one)
		}
		if len(own) == 0 || !slices.Equal(own, impl.RowTerm(many, impl.RowAnd)) {
			t.Fatal("own groups", many, own)
		}
	}
}

func TestGroupTermOfOthers(t *testing.T) {
	eachNoGroups(func(many int, groups [][]int) {
		if term := impl.GroupTerm(many, groups); len(term) != 0 {
			t.Fatal(many, groups, term)
		}
	})
}

// Promise 53.

func TestCostsOfSomeGroups(t *testing.T) {
	tests := []impl.Test{{Cost: 2, Chance: 3}, {Cost: 5, Chance: 1}, {Cost: 1, Chance: 4}}
	for _, group := range []struct {
		tests      []impl.Test
		groups     [][]int
		at         int
		cost, none int
	}{
		{tests, [][]int{{1, 0}, {2}}, 0, 2*36 + 5*3*6, 15}, {tests, [][]int{{1, 0}, {2}}, 1, 6, 2}, {tests, [][]int{{2}, {0, 1}}, 1, 162, 15},
		{tests, [][]int{{0, 1, 2}}, 0, 216 + 2*2*36 + 5*2*3*6, 30}, {tests, [][]int{{1, 2}, {0}}, 0, 36 + 5*2*6, 10}, {tests, [][]int{{2, 0}, {1}}, 0, 36 + 2*2*6, 6}, {tests, [][]int{{2, 0}, {1}}, 1, 30, 5},
		{[]impl.Test{{Cost: 1, Chance: 1}}, [][]int{{0}}, 0, 6, 5}, {[]impl.Test{{Cost: 9, Chance: 5}}, [][]int{{0}}, 0, 54, 1},
		{equalTests(5, 5), [][]int{{4, 2, 0, 1, 3}}, 0, 9 * (7776 + 1296 + 216 + 36 + 6), 1}, {equalTests(5, 1), [][]int{{0, 1, 2, 3, 4}}, 0, 9 * (7776 + 5*1296 + 25*216 + 125*36 + 625*6), 3125},
		{equalTests(5, 1), [][]int{{0}, {3, 2}, {4, 1}}, 2, 9 * (36 + 5*6), 25}, {equalTests(5, 3), [][]int{{0}, {3}, {2, 4, 1}}, 2, 9 * (216 + 3*36 + 9*6), 27},
	} {
		if cost, none, ok := impl.GroupCost(group.tests, group.groups, group.at); !ok || cost != group.cost || none != group.none {
			t.Fatal(group, cost, none, ok)
		}
	}
}

func TestCostsOfGroupsAreSumsOverStates(t *testing.T) {
	eachGrouped(func(tests []impl.Test, groups [][]int) {
		for at, row := range groups {
			cost, none, ok := impl.GroupCost(tests, groups, at)
			others := power(6, len(tests)-len(row))
			wantCost, wantNone := groupIn(tests, row)
			if !ok || cost*others != wantCost || none*others != wantNone {
				t.Fatal(tests, groups, at, cost, none, ok, wantCost, wantNone)
			}
		}
	})
}

func TestNoGroupIsSureAndNoneCostsLessThanItsCheapestTest(t *testing.T) {
	eachGrouped(func(tests []impl.Test, groups [][]int) {
		for at, row := range groups {
			whole, cheapest := power(6, len(row)), 9
			for _, member := range row {
				cheapest = min(cheapest, tests[member].Cost)
			}
			cost, none, ok := impl.GroupCost(tests, groups, at)
			if !ok || none < 1 || none >= whole || cost < cheapest*whole {
				t.Fatal(tests, groups, at, cost, none, ok)
			}
		}
	})
}

func TestAGroupOfOneIsItsTest(t *testing.T) {
	often := 0
	eachGrouped(func(tests []impl.Test, groups [][]int) {
		for at, row := range groups {
			if len(row) > 1 {
				continue
			}
			often++
			test := tests[row[0]]
			if cost, none, ok := impl.GroupCost(tests, groups, at); !ok || cost != 6*test.Cost || none != 6-test.Chance {
				t.Fatal(tests, groups, at, cost, none, ok)
			}
		}
	})
	if often < 1000 {
		t.Fatal("too few groups of one", often)
	}
}

func TestOneGroupOfAllCostsWhatTheRowOfOneDoes(t *testing.T) {
	for _, tests := range rowTests() {
		many := len(tests)
		want := impl.RowAverage(tests, impl.RatioOrder(tests, impl.RowOr), impl.RowOr)
		for _, order := range [][]int{ascending(many), reversed(ascending(many))} {
			cost, none, ok := impl.GroupCost(tests, [][]int{order}, 0)
			if !ok || cost != want || none != power(6, many)-impl.TrueWeight(tests, rowOf(many, impl.RowOr)) {
				t.Fatal(tests, order, cost, none, ok, want)
			}
		}
	}
}

func TestWhatAGroupCostsIsByItsTestsAlone(t *testing.T) {
	eachGrouped(func(tests []impl.Test, groups [][]int) {
		for at, row := range groups {
			var members []impl.Test
			for _, member := range row {
				members = append(members, tests[member])
			}
			cost, none, ok := impl.GroupCost(tests, groups, at)
			alone, aloneNone, aloneOk := impl.GroupCost(members, oneGroup(len(row)), 0)
			if !ok || !aloneOk || cost != alone || none != aloneNone {
				t.Fatal(tests, groups, at, cost, none, alone, aloneNone)
			}
		}
	})
}

func TestNoCostsWhereThereIsNoGroup(t *testing.T) {
	eachGroups(func(many int, groups [][]int) {
		for _, at := range append(farNumbers(), len(groups), len(groups)+1, 5, 6) {
			if cost, none, ok := impl.GroupCost(equalTests(many, 2), groups, at); cost != 0 || none != 0 || ok {
				t.Fatal(groups, at, cost, none, ok)
			}
		}
	})
}

func TestGroupCostOfOthers(t *testing.T) {
	eachNoGrouped(func(tests []impl.Test, groups [][]int) {
		for at := -1; at <= len(groups); at++ {
			if cost, none, ok := impl.GroupCost(tests, groups, at); cost != 0 || none != 0 || ok {
				t.Fatal(tests, groups, at, cost, none, ok)
			}
		}
	})
}

// Promise 54.

func TestSomeSortedGroups(t *testing.T) {
	tests := []impl.Test{{Cost: 2, Chance: 3}, {Cost: 5, Chance: 1}, {Cost: 1, Chance: 4}}
	five := []impl.Test{{Cost: 1, Chance: 3}, {Cost: 3, Chance: 2}, {Cost: 1, Chance: 4}, {Cost: 2, Chance: 2}, {Cost: 5, Chance: 2}}
	for _, sorted := range []struct {
		tests        []impl.Test
		groups, want [][]int
	}{
		// 162/15 and 6/2; 30/6 and 5/3, and 60/6 and 30/5; 96/10 and 12/3.
		{tests, [][]int{{1, 0}, {2}}, [][]int{{2}, {0, 1}}}, {tests, [][]int{{0, 2}, {1}}, [][]int{{1}, {2, 0}}}, {tests, [][]int{{1, 2}, {0}}, [][]int{{0}, {2, 1}}},
		{tests, [][]int{{1, 0, 2}}, [][]int{{2, 0, 1}}}, {tests, [][]int{{0}, {1}, {2}}, [][]int{{2}, {0}, {1}}}, {tests[:1], [][]int{{0}}, [][]int{{0}}},
		// 15/2 for each of the groups.
		{five, [][]int{{1, 0}, {3, 2}, {4}}, [][]int{{0, 1}, {2, 3}, {4}}}, {five, [][]int{{4}, {2, 3}, {0, 1}}, [][]int{{4}, {2, 3}, {0, 1}}}, {five, [][]int{{2, 3}, {4}, {1, 0}}, [][]int{{2, 3}, {4}, {0, 1}}},
		// Equal ratios of all tests.
		{equalTests(5, 2), [][]int{{4, 1, 3, 0, 2}}, [][]int{{0, 1, 2, 3, 4}}}, {equalTests(5, 2), [][]int{{4}, {1}, {3}, {0}, {2}}, [][]int{{4}, {1}, {3}, {0}, {2}}}, {equalTests(5, 2), [][]int{{4, 1}, {2}, {3, 0}}, [][]int{{2}, {1, 4}, {0, 3}}},
	} {
		if got := impl.SortedGroups(sorted.tests, sorted.groups); !equalRows(got, sorted.want) {
			t.Fatal(sorted, got)
		}
	}
}

func TestSortedGroupsAreTheSameGroups(t *testing.T) {
	eachGrouped(func(tests []impl.Test, groups [][]int) {
		sorted := impl.SortedGroups(tests, groups)
		if !impl.GroupsOk(len(tests), sorted) || len(sorted) != len(groups) {
			t.Fatal(tests, groups, sorted)
		}
		for _, row := range groups {
			if !slices.ContainsFunc(sorted, func(other []int) bool { return setOf(other) == setOf(row) }) {
				t.Fatal("one is not there", tests, groups, sorted, row)
			}
		}
		if again := impl.SortedGroups(tests, sorted); !equalRows(again, sorted) {
			t.Fatal("sorted again", tests, sorted, again)
		}
	})
}

func TestGroupsGoByTheirRatiosAndSoDoTheirTests(t *testing.T) {
	eachGrouped(func(tests []impl.Test, groups [][]int) {
		if got, want := impl.SortedGroups(tests, groups), sortedGroupsIn(tests, groups); !equalRows(got, want) {
			t.Fatal(tests, groups, got, want)
		}
	})
}

func TestOfEqualGroupsTheOneAheadIsFirst(t *testing.T) {
	seen := 0
	for _, g := range numberedEdges(edgeGroups) {
		isEqual := true
		for _, row := range g.groups {
			isEqual = isEqual && groupRatioIn(g.tests, row).Cmp(groupRatioIn(g.tests, g.groups[0])) == 0
		}
		if !isEqual || len(g.groups) == 1 {
			continue
		}
		seen++
		got := impl.SortedGroups(g.tests, g.groups)
		for i, row := range g.groups {
			if !slices.Equal(got[i], sortedRowIn(g.tests, row)) {
				t.Fatal(g, got)
			}
		}
	}
	if seen < 100 {
		t.Fatal("too few that are equal", seen)
	}
}

func TestOfEqualTestsOfAGroupTheLesserOneIsFirst(t *testing.T) {
	eachGroups(func(many int, groups [][]int) {
		for chance := 1; chance <= 5; chance++ {
			for _, row := range impl.SortedGroups(equalTests(many, chance), groups) {
				if !slices.IsSorted(row) {
					t.Fatal(many, groups, chance, row)
				}
			}
		}
	})
}

func TestRatiosOfSortedGroupsNeverFall(t *testing.T) {
	eachGrouped(func(tests []impl.Test, groups [][]int) {
		sorted := impl.SortedGroups(tests, groups)
		before := big.NewRat(0, 1)
		for at := range sorted {
			cost, none, _ := impl.GroupCost(tests, sorted, at)
			next := big.NewRat(int64(cost), int64(none))
			if next.Cmp(before) < 0 {
				t.Fatal(tests, sorted, at)
			}
			before = next
		}
	})
}

func TestOwnGroupsGoAsTheRowOfAllDoes(t *testing.T) {
	for _, tests := range rowTests() {
		got := impl.SortedGroups(tests, ownGroups(len(tests)))
		if order := impl.RatioOrder(tests, impl.RowAnd); !slices.Equal(slices.Concat(got...), order) || len(got) != len(tests) {
			t.Fatal(tests, got, order)
		}
	}
}

func TestOneGroupOfAllGoesAsTheRowOfOneDoes(t *testing.T) {
	for _, tests := range rowTests() {
		got := impl.SortedGroups(tests, oneGroup(len(tests)))
		if order := impl.RatioOrder(tests, impl.RowOr); !equalRows(got, [][]int{order}) {
			t.Fatal(tests, got, order)
		}
	}
}

func TestSortedGroupsOfOthers(t *testing.T) {
	eachNoGrouped(func(tests []impl.Test, groups [][]int) {
		if got := impl.SortedGroups(tests, groups); len(got) != 0 {
			t.Fatal(tests, groups, got)
		}
	})
}

// Promise 55.

func TestNoPlanIsBetterThanOneGroupAfterTheOther(t *testing.T) {
	eachGrouped(func(tests []impl.Test, groups [][]int) {
		got, least := impl.GroupAverage(tests, groups), impl.BestAverage(tests, impl.GroupTerm(len(tests), groups))
		if got != least || got <= 0 {
			t.Fatal(tests, groups, got, least)
		}
	})
}

func TestAveragesOfGroupsAreSumsOverStates(t *testing.T) {
	eachGrouped(func(tests []impl.Test, groups [][]int) {
		got, want := impl.GroupAverage(tests, groups), groupsAverageIn(tests, sortedGroupsIn(tests, groups))
		if got != want {
			t.Fatal(tests, groups, got, want)
		}
	})
}

// samePartition is a text that groups have in common just with those that differ in orders alone.
func samePartition(groups [][]int) string {
	var sets []byte
	for _, row := range groups {
		sets = append(sets, byte('@'+setOf(row)))
	}
	slices.Sort(sets)
	return string(sets)
}

func TestGroupsInNoOtherOrdersCostLess(t *testing.T) {
	for many := 1; many <= 5; many++ {
		byPartition := map[string][][][]int{}
		for _, groups := range groupsOf(many) {
			key := samePartition(groups)
			byPartition[key] = append(byPartition[key], groups)
		}
		// So many ways there are to part a set: 1, 2, 5, 15, 52.
		if len(byPartition) != []int{0, 1, 2, 5, 15, 52}[many] {
			t.Fatal(many, len(byPartition))
		}
		turn := 0
		for _, list := range byPartition {
			turn++
			for _, tests := range testLists(many, turn) {
				least := -1
				for _, groups := range list {
					if average := groupsAverageIn(tests, groups); least == -1 || average < least {
						least = average
					}
				}
				for _, groups := range list {
					if got := impl.GroupAverage(tests, groups); got != least {
						t.Fatal(tests, groups, got, least)
					}
				}
			}
		}
	}
}

func TestAveragesOfSomeGroups(t *testing.T) {
	tests := []impl.Test{{Cost: 2, Chance: 3}, {Cost: 5, Chance: 1}, {Cost: 1, Chance: 4}}
	for _, average := range []struct {
		tests  []impl.Test
		groups [][]int
		want   int
	}{
		{tests, [][]int{{1, 0}, {2}}, 6*36 + 4*162}, {tests, [][]int{{2}, {0, 1}}, 864}, {tests, [][]int{{0, 2}, {1}}, 30*36 + 1*60}, {tests, [][]int{{1, 2}, {0}}, 12*36 + 3*96},
		{tests, [][]int{{2, 1, 0}}, 216 + 2*2*36 + 5*2*3*6}, {tests, [][]int{{1}, {0}, {2}}, 6*36 + 4*12*6 + 4*3*30},
		{tests[:1], [][]int{{0}}, 12}, {[]impl.Test{{Cost: 9, Chance: 5}}, [][]int{{0}}, 54},
		{equalTests(5, 5), [][]int{{0, 1, 2, 3, 4}}, 9 * (7776 + 1296 + 216 + 36 + 6)}, {equalTests(5, 5), [][]int{{4}, {3}, {2}, {1}, {0}}, 9 * (7776 + 5*1296 + 25*216 + 125*36 + 625*6)},
		{equalTests(5, 1), [][]int{{0, 1, 2, 3, 4}}, 9 * (7776 + 5*1296 + 25*216 + 125*36 + 625*6)}, {equalTests(5, 1), [][]int{{4}, {3}, {2}, {1}, {0}}, 9 * (7776 + 1296 + 216 + 36 + 6)},
		{equalTests(4, 3), [][]int{{3, 1}, {0, 2}}, 9*(36+18)*36 + 27*9*(36+18)},
	} {
		if got := impl.GroupAverage(average.tests, average.groups); got != average.want {
			t.Fatal(average, got)
		}
	}
}

func TestOneGroupOfAllAndOwnGroupsCostWhatRowsDo(t *testing.T) {
	for _, tests := range rowTests() {
		one, own := impl.GroupAverage(tests, oneGroup(len(tests))), impl.GroupAverage(tests, ownGroups(len(tests)))
		if one != rowAverageIn(tests, sortedIn(tests, impl.RowOr), impl.RowOr) || own != rowAverageIn(tests, sortedIn(tests, impl.RowAnd), impl.RowAnd) {
			t.Fatal(tests, one, own)
		}
	}
}

func TestGroupAverageOfOthers(t *testing.T) {
	eachNoGrouped(func(tests []impl.Test, groups [][]int) {
		if got := impl.GroupAverage(tests, groups); got != -1 {
			t.Fatal(tests, groups, got)
		}
	})
}

// Promise 56.

func TestThePlanOfGroupsCostsWhatGroupsCost(t *testing.T) {
	eachGrouped(func(tests []impl.Test, groups [][]int) {
		many := len(tests)
		term := impl.GroupTerm(many, groups)
		plan, ok := impl.GroupPlan(tests, groups)
		if !ok || !impl.PlanOk(many, term, plan) {
			t.Fatal(tests, groups, plan, ok)
		}
		if got, want := impl.AverageBy(tests, term, plan), impl.GroupAverage(tests, groups); got != want {
			t.Fatal(tests, groups, plan, got, want)
		}
	})
}

func TestThePlanOfGroupsAsksOneGroupAfterTheOther(t *testing.T) {
	eachGrouped(func(tests []impl.Test, groups [][]int) {
		many, sorted := len(tests), sortedGroupsIn(tests, groups)
		plan, _ := impl.GroupPlan(tests, groups)
		for state := range power(2, many) {
			_, some, ok := impl.CostBy(tests, impl.GroupTerm(many, groups), plan, state)
			if asked := askedInGroups(sorted, state); !ok || some != setOf(asked) {
				t.Fatal(tests, groups, plan, state, some, ok, asked)
			}
		}
	})
}

func TestThePlanOfGroupsHasAllBehindANoBeforeAllBehindTheYes(t *testing.T) {
	eachGrouped(func(tests []impl.Test, groups [][]int) {
		many, sorted := len(tests), sortedGroupsIn(tests, groups)
		truth := truthOf(many, impl.GroupTerm(many, groups))
		want := planOf(noFirst(wayBy(truth, nothingKnown(many), alongGroups(sorted))))
		if got, ok := impl.GroupPlan(tests, groups); !ok || !slices.Equal(got, want) {
			t.Fatal(tests, groups, got, ok, want)
		}
	})
}

func TestSomePlansOfGroups(t *testing.T) {
	tests := []impl.Test{{Cost: 2, Chance: 3}, {Cost: 5, Chance: 1}, {Cost: 1, Chance: 4}}
	for _, plan := range []struct {
		tests  []impl.Test
		groups [][]int
		rows   choiceRows
	}{
		{tests[:1], [][]int{{0}}, choiceRows{{0, -1, -1}}}, {tests[:2], [][]int{{1, 0}}, choiceRows{{0, 1, -1}, {1, -1, -1}}}, {tests[:2], [][]int{{1}, {0}}, choiceRows{{0, -1, 1}, {1, -1, -1}}},
		{tests, [][]int{{1, 0}, {2}}, choiceRows{{2, -1, 1}, {0, 2, -1}, {1, -1, -1}}}, {tests, [][]int{{0, 1, 2}}, choiceRows{{2, 1, -1}, {0, 2, -1}, {1, -1, -1}}}, {tests, [][]int{{0}, {1}, {2}}, choiceRows{{2, -1, 1}, {0, -1, 2}, {1, -1, -1}}},
		// A second group behind each yes of the first one.
		{equalTests(4, 3), [][]int{{2, 0}, {3, 1}}, choiceRows{{0, 1, 4}, {2, -1, 2}, {1, 3, -1}, {3, -1, -1}, {1, 5, -1}, {3, -1, -1}}},
		{equalTests(4, 3), [][]int{{2, 0}, {3}, {1}}, choiceRows{{3, -1, 1}, {1, -1, 2}, {0, 3, -1}, {2, -1, -1}}},
	} {
		if got, ok := impl.GroupPlan(plan.tests, plan.groups); !ok || !slices.Equal(got, choicesOf(plan.rows)) {
			t.Fatal(plan, got, ok)
		}
	}
}

func TestGroupsOfAllAndOwnOnesArePlannedAsOrdersByRatios(t *testing.T) {
	for _, tests := range rowTests() {
		many := len(tests)
		for row, groups := range map[int][][]int{impl.RowOr: oneGroup(many), impl.RowAnd: ownGroups(many)} {
			want, _ := impl.OrderPlan(many, rowOf(many, row), impl.RatioOrder(tests, row))
			if got, ok := impl.GroupPlan(tests, groups); !ok || len(got) != many || !slices.Equal(got, want) {
				t.Fatal(tests, groups, got, ok, want)
			}
		}
	}
}

func TestGroupPlanOfOthers(t *testing.T) {
	eachNoGrouped(func(tests []impl.Test, groups [][]int) {
		if plan, ok := impl.GroupPlan(tests, groups); len(plan) != 0 || ok {
			t.Fatal(tests, groups, plan, ok)
		}
	})
}

// Promise 57.

func TestGroupsAreTrueByProducts(t *testing.T) {
	eachGrouped(func(tests []impl.Test, groups [][]int) {
		want := 1
		for at, row := range groups {
			_, none, _ := impl.GroupCost(tests, groups, at)
			want *= power(6, len(row)) - none
		}
		if got := impl.TrueWeight(tests, impl.GroupTerm(len(tests), groups)); got != want || got <= 0 {
			t.Fatal(tests, groups, got, want)
		}
	})
}

func TestTrueWeightsOfSomeGroups(t *testing.T) {
	tests := []impl.Test{{Cost: 2, Chance: 3}, {Cost: 5, Chance: 1}, {Cost: 1, Chance: 4}}
	for _, weight := range []struct {
		tests  []impl.Test
		groups [][]int
		want   int
	}{
		{tests, [][]int{{1, 0}, {2}}, (36 - 15) * 4}, {tests, [][]int{{0}, {2, 1}}, 3 * (36 - 10)}, {tests, [][]int{{0, 1, 2}}, 216 - 30}, {tests, [][]int{{2}, {1}, {0}}, 12},
		{equalTests(5, 5), [][]int{{0, 1}, {2, 3}, {4}}, 35 * 35 * 5}, {equalTests(5, 1), [][]int{{0, 1, 2, 3, 4}}, 7776 - 3125},
	} {
		if got := impl.TrueWeight(weight.tests, impl.GroupTerm(len(weight.tests), weight.groups)); got != weight.want {
			t.Fatal(weight, got)
		}
	}
}

// Promise 58.

func TestOfEachGroupOneOrAllOfOneGroupCostTheSame(t *testing.T) {
	eachGrouped(func(tests []impl.Test, groups [][]int) {
		many := len(tests)
		dual := impl.DualTerm(many, impl.GroupTerm(many, groups))
		if got, want := impl.BestAverage(impl.OtherTests(tests), dual), impl.GroupAverage(tests, groups); got != want || got <= 0 {
			t.Fatal(tests, groups, got, want)
		}
	})
}

func TestTheDualOfGroupsIsTrueIfAllOfOneGroupAre(t *testing.T) {
	eachGroups(func(many int, groups [][]int) {
		dual := impl.DualTerm(many, impl.GroupTerm(many, groups))
		last := power(2, many) - 1
		for state := range last + 1 {
			// All of a group come out yes if not one does where each test comes out the other way.
			all := slices.ContainsFunc(groups, func(row []int) bool { return !hasYesIn(row, last-state) })
			if impl.ValueOf(many, dual, state) != all {
				t.Fatal(many, groups, state, all)
			}
		}
	})
}

// General rules: results are new memory, arguments are never written to, and no call leaves anything behind for the next one.

func TestResultsOfGroupsAreNewMemory(t *testing.T) {
	eachGroups(func(many int, groups [][]int) {
		tests, groupsBefore := turnedTests(many, 3), copied(groups)
		term, sorted := impl.GroupTerm(many, groups), impl.SortedGroups(tests, groups)
		plan, _ := impl.GroupPlan(tests, groups)
		termBefore, sortedBefore, planBefore := slices.Clone(term), copied(sorted), slices.Clone(plan)
		overwrite(term, impl.Mark{Kind: 77, At: 77})
		overwrite(plan, impl.Choice{Ask: 77, No: 77, Yes: 77})
		for i, row := range sorted {
			if !slices.Equal(row, sortedBefore[i]) {
				t.Fatal("rows share memory", many, groups, i, row)
			}
			overwrite(row, 77)
		}
		overwrite(sorted, []int{77})
		again, _ := impl.GroupPlan(tests, groups)
		if !equalRows(groups, groupsBefore) || !slices.Equal(impl.GroupTerm(many, groups), termBefore) || !equalRows(impl.SortedGroups(tests, groups), sortedBefore) || !slices.Equal(again, planBefore) {
			t.Fatal(many, groups)
		}
	})
}

// overwrite writes an element to all of a row, its spare capacity too.
func overwrite[E any](row []E, element E) {
	row = row[:cap(row)]
	for i := range row {
		row[i] = element
	}
}

func TestArgumentsOfGroupsAreNotWrittenTo(t *testing.T) {
	eachGrouped(func(tests []impl.Test, groups [][]int) {
		checkArgumentsStay(t, tests, groups, groupsFor)
	})
}

// groupsFor calls all functions of the chapter and returns their numbers.
func groupsFor(tests []impl.Test, groups [][]int) []int {
	answers := []int{impl.GroupAverage(tests, groups)}
	for _, mark := range impl.GroupTerm(len(tests), groups) {
		answers = append(answers, mark.Kind, mark.At)
	}
	for at := range groups {
		cost, none, _ := impl.GroupCost(tests, groups, at)
		answers = append(answers, cost, none)
	}
	plan, _ := impl.GroupPlan(tests, groups)
	for _, choice := range plan {
		answers = append(answers, choice.Ask, choice.No, choice.Yes)
	}
	answers = append(answers, slices.Concat(impl.SortedGroups(tests, groups)...)...)
	if impl.GroupsOk(len(tests), groups) {
		answers = append(answers, -2)
	}
	return answers
}
