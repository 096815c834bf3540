package tests

import (
	"math/big"
	"slices"
	"sync"
	"testing"

	"loop.example/checksinorder/impl"
)

// cut is an order of tests, cut into groups: a number tells as states do behind which of them.
func cut(order []int, cuts int) [][]int {
	groups := [][]int{{}}
	for i, at := range order {
		last := len(groups) - 1
		groups[last] = append(groups[last], at)
		if i < len(order)-1 && saysYes(cuts, i) {
			groups = append(groups, []int{})
		}
	}
	return groups
}

// allGroups are the groups of each number of tests: all of their orders, cut in all ways.
var allGroups = sync.OnceValue(func() [6][][][]int {
	var lists [6][][][]int
	for many := 1; many <= 5; many++ {
		for _, order := range ordersOf(many) {
			for cuts := range power(2, many-1) {
				lists[many] = append(lists[many], cut(order, cuts))
			}
		}
	}
	return lists
})

// groupsOf lists all groups of so many tests.
func groupsOf(many int) [][][]int {
	return allGroups()[many]
}

// eachGroups calls visit for all groups of each number of tests.
func eachGroups(visit func(many int, groups [][]int)) {
	for many := 1; many <= 5; many++ {
		for _, groups := range groupsOf(many) {
			visit(many, copied(groups))
		}
	}
}

// oneGroup is one group of all of so many tests.
func oneGroup(many int) [][]int {
	return [][]int{ascending(many)}
}

// ownGroups has each of so many tests as its own group.
func ownGroups(many int) [][]int {
	var groups [][]int
	for at := range many {
		groups = append(groups, []int{at})
	}
	return groups
}

// copied is a copy of rows.
func copied(rows [][]int) [][]int {
	rows = slices.Clone(rows)
	for i := range rows {
		rows[i] = slices.Clone(rows[i])
	}
	return rows
}

// equalRows tells whether rows have the same numbers.
func equalRows(first, second [][]int) bool {
	return slices.EqualFunc(first, second, slices.Equal)
}

// turnedRows are rows from the last one to the first one.
func turnedRows(rows [][]int) [][]int {
	rows = copied(rows)
	slices.Reverse(rows)
	return rows
}

// joinedRows are rows of which the one at a place and the next one are one.
func joinedRows(rows [][]int, at int) [][]int {
	joined := slices.Concat(rows[at], rows[at+1])
	return slices.Concat(copied(rows[:at]), [][]int{joined}, copied(rows[at+2:]))
}

// areGroups tells whether no row is empty, and all together have each of so many tests once.
func areGroups(many int, rows [][]int) bool {
	hasEmpty := slices.ContainsFunc(rows, func(row []int) bool { return len(row) == 0 })
	all := slices.Concat(rows...)
	return !hasEmpty && len(all) == many && hasEach(all) && many >= 1 && many <= 5
}

// hasYesIn tells whether one of some tests comes out yes in a state.
func hasYesIn(row []int, state int) bool {
	return slices.ContainsFunc(row, func(at int) bool { return saysYes(state, at) })
}

// askedInRow lists the tests of a row that are asked in a state until one comes out yes.
func askedInRow(row []int, state int) []int {
	for i, at := range row {
		if saysYes(state, at) {
			return row[:i+1]
		}
	}
	return row
}

// askedInGroups lists the tests that are asked in a state if groups are asked as they stand, until none of one comes out yes.
func askedInGroups(groups [][]int, state int) []int {
	var asked []int
	for _, row := range groups {
		asked = append(asked, askedInRow(row, state)...)
		if !hasYesIn(row, state) {
			break
		}
	}
	return asked
}

// groupsAverageIn is what it costs in all states, by their weights, to ask groups as they stand.
func groupsAverageIn(tests []impl.Test, groups [][]int) int {
	average := 0
	for state := range power(2, len(tests)) {
		weight := impl.WeightOf(tests, state)
		for _, at := range askedInGroups(groups, state) {
			average += weight * tests[at].Cost
		}
	}
	return average
}

// groupIn is what it costs in all states of all tests to ask those of a group by their ratios until one comes out yes, and the weight of the states in which none does.
func groupIn(tests []impl.Test, row []int) (int, int) {
	row = sortedRowIn(tests, row)
	none := 0
	for state := range power(2, len(tests)) {
		if !hasYesIn(row, state) {
			none += impl.WeightOf(tests, state)
		}
	}
	return groupsAverageIn(tests, [][]int{row}), none
}

// sortedRowIn is a row of tests by their ratios of the cost to the chance for a yes, of equal ones the lesser test first.
func sortedRowIn(tests []impl.Test, row []int) []int {
	row = slices.Sorted(slices.Values(row))
	slices.SortStableFunc(row, func(first, second int) int {
		return ratioIn(tests[first], impl.RowOr) - ratioIn(tests[second], impl.RowOr)
	})
	return row
}

// groupRatioIn is the ratio of what a group costs to the chance that none of it comes out yes.
func groupRatioIn(tests []impl.Test, row []int) *big.Rat {
	cost, none := groupIn(tests, row)
	return big.NewRat(int64(cost), int64(none))
}

// sortedGroupsIn are groups by these ratios, of equal ones the one ahead first, each with its tests by theirs.
func sortedGroupsIn(tests []impl.Test, groups [][]int) [][]int {
	type sortedRow struct {
		row   []int
		ratio *big.Rat
	}
	var list []sortedRow
	for _, row := range groups {
		list = append(list, sortedRow{sortedRowIn(tests, row), groupRatioIn(tests, row)})
	}
	slices.SortStableFunc(list, func(first, second sortedRow) int { return first.ratio.Cmp(second.ratio) })
	var sorted [][]int
	for _, element := range list {
		sorted = append(sorted, element.row)
	}
	return sorted
}

// alongGroups asks the next test of the first group of which no test has come out yes.
func alongGroups(groups [][]int) func(known []int) int {
	return func(known []int) int {
		i := slices.IndexFunc(groups, func(row []int) bool {
			return !slices.ContainsFunc(row, func(at int) bool { return known[at] == 1 })
		})
		return along(groups[i])(known)
	}
}

// grouped are tests and groups of them.
type grouped struct {
	tests  []impl.Test
	groups [][]int
}

// edgeGroups are groups of costs and chances, with what is easily forgotten.
var edgeGroups = [][][][2]int{
	// Groups of one test: alone, of equal ratios, and of ones that differ little.
	{{{1, 1}}}, {{{9, 5}}}, {{{9, 5}}, {{9, 1}}}, {{{1, 5}}, {{5, 1}}, {{2, 4}}, {{4, 2}}, {{3, 3}}}, {{{9, 3}}, {{3, 5}}, {{6, 4}}}, {{{7, 2}}, {{9, 1}}, {{5, 3}}, {{8, 1}}, {{3, 4}}},
	// One group of all: of equal ratios, and of ones that go one way while costs, or chances, go another one.
	{{{1, 1}, {2, 2}, {3, 3}, {4, 4}, {5, 5}}}, {{{9, 5}, {3, 1}, {1, 1}, {4, 5}}}, {{{2, 1}, {4, 2}, {6, 3}}}, {{{9, 1}, {9, 1}, {9, 1}, {9, 1}, {9, 1}}}, {{{1, 5}, {1, 5}, {1, 5}, {1, 5}, {1, 5}}},
	// Groups of equal ratios, but not of as many tests, or not of the same ones.
	{{{5, 5}}, {{8, 2}, {6, 3}}}, {{{7, 2}}, {{2, 2}, {4, 2}}}, {{{9, 3}}, {{3, 3}, {1, 4}, {1, 2}}}, {{{6, 5}}, {{2, 3}, {6, 1}, {6, 2}, {1, 4}}}, {{{9, 4}}, {{3, 1}, {3, 2}, {2, 3}, {1, 4}}},
	{{{8, 3}, {9, 5}}, {{3, 5}, {1, 5}, {8, 3}}}, {{{5, 2}, {8, 3}}, {{1, 2}, {5, 3}, {2, 4}}}, {{{9, 1}, {4, 5}}, {{9, 4}, {6, 1}}}, {{{1, 3}, {3, 2}}, {{1, 4}, {2, 2}}, {{5, 2}}}, {{{9, 4}, {3, 4}}, {{3, 5}, {2, 4}}, {{9, 5}}},
	{{{4, 2}}, {{5, 1}}, {{2, 1}, {1, 2}, {1, 1}}}, {{{2, 5}}, {{6, 3}}, {{4, 1}, {2, 3}, {1, 1}}}, {{{3, 5}}, {{9, 3}}, {{6, 4}}, {{4, 3}, {7, 1}}}, {{{2, 2}}, {{1, 4}}, {{1, 2}, {1, 1}}},
	// The same for the ratios within the groups too.
	{{{1, 3}, {1, 3}}, {{1, 5}}}, {{{2, 2}, {2, 2}}, {{1, 3}, {3, 2}}}, {{{3, 3}, {3, 3}}, {{3, 3}, {3, 3}}, {{1, 1}}},
	// Ratios that differ by less than one part of a thousand.
	{{{3, 2}, {9, 2}}, {{5, 1}, {2, 1}, {8, 1}}}, {{{3, 2}, {2, 5}}, {{5, 1}, {7, 1}, {4, 1}}}, {{{1, 2}, {5, 3}}, {{7, 1}, {2, 1}, {1, 1}}},
	// A group that is cheap, but seldom ends all, and one that is dear, but nearly always does; all come out yes, or no, in most states.
	{{{1, 5}, {1, 5}}, {{9, 1}}}, {{{1, 5}, {1, 5}, {1, 5}}, {{9, 1}, {9, 1}}}, {{{9, 5}, {9, 5}}, {{9, 5}, {1, 5}}, {{1, 5}}}, {{{9, 1}, {9, 1}}, {{9, 1}, {1, 1}}, {{1, 1}}}, {{{1, 1}, {9, 1}, {1, 1}}, {{9, 5}}, {{1, 5}}},
}

// numbered are the tests of edge groups, numbered along an order, and the groups of these numbers.
func numbered(edge [][][2]int, order []int) grouped {
	g := grouped{tests: make([]impl.Test, len(order))}
	for _, costsAndChances := range edge {
		var row []int
		for _, test := range costsAndChances {
			at := order[0]
			order = order[1:]
			g.tests[at] = impl.Test{Cost: test[0], Chance: test[1]}
			row = append(row, at)
		}
		g.groups = append(g.groups, row)
	}
	return g
}

// numberedEdges lists edges, in all orders of their groups, each with three ways to number the tests.
func numberedEdges(edges [][][][2]int) []grouped {
	var list []grouped
	for turn, edge := range edges {
		for _, order := range ordersOf(len(edge)) {
			var moved [][][2]int
			for _, i := range order {
				moved = append(moved, edge[i])
			}
			orders := ordersOf(len(slices.Concat(edge...)))
			for _, i := range []int{0, (13*turn + 29) % len(orders), len(orders) - 1} {
				list = append(list, numbered(moved, orders[i]))
			}
		}
	}
	return list
}

// sampledGroups are all groups, each with four lists of tests; all of one test and of two with all groups; and some of more tests with one of their groups in turn.
var sampledGroups = sync.OnceValue(func() []grouped {
	var list []grouped
	turn := 0
	eachGroups(func(many int, groups [][]int) {
		turn++
		for _, tests := range testLists(many, turn) {
			list = append(list, grouped{tests, groups})
		}
	})
	for i, step := range []int{1, 1, 97, 6007, 300007} {
		all := groupsOf(1 + i)
		for number := 0; number < power(45, 1+i); number += step {
			tests := numberedTests(1+i, number)
			if i < 2 {
				for _, groups := range all {
					list = append(list, grouped{tests, groups})
				}
				continue
			}
			list = append(list, grouped{tests, all[number/step%len(all)]})
		}
	}
	return list
})

// groupedTests are the edges of groups, and sampledGroups.
var groupedTests = sync.OnceValue(func() []grouped {
	return slices.Concat(numberedEdges(edgeGroups), sampledGroups())
})

// eachGrouped calls visit for groupedTests.
func eachGrouped(visit func(tests []impl.Test, groups [][]int)) {
	for _, g := range groupedTests() {
		visit(slices.Clone(g.tests), copied(g.groups))
	}
}

// noGroups are rows that are no groups of so many tests.
func noGroups(many int) [][][]int {
	one, own := oneGroup(many), ownGroups(many)
	list := [][][]int{
		nil, {}, {nil}, {{}, {}}, slices.Repeat([][]int{{}}, many),
		// A group that is empty: ahead, in between, or behind.
		{{}, one[0]}, {one[0], nil}, slices.Insert(copied(own), 0, []int{}), append(copied(own), nil), slices.Insert(copied(own), many/2, []int{}),
		// Tests that are in two groups, or twice in one.
		{one[0], one[0]}, {slices.Concat(one[0], one[0])}, slices.Concat(own, own), append(copied(own), []int{0}), append(copied(one), []int{many - 1}), {append(slices.Clone(one[0]), 0)}, slices.Repeat([][]int{{0}}, 64), {make([]int, 1000)},
		// Tests that are in none.
		own[1:], own[:many-1], {one[0][1:]}, {one[0][:many-1]}, {{}, one[0][1:]},
		// One test more than there are.
		oneGroup(many + 1), ownGroups(many + 1), append(copied(one), []int{many}),
	}
	for at := range many {
		for _, number := range append(farNumbers(), many, many+1, 5, 6) {
			inOne, inOwn := copied(one), copied(own)
			inOne[0][at], inOwn[at][0] = number, number
			list = append(list, inOne, inOwn)
		}
		if many > 1 {
			inOne, inOwn := copied(one), copied(own)
			inOne[0][at], inOwn[at][0] = (at+1)%many, (at+1)%many
			list = append(list, inOne, inOwn)
		}
	}
	return list
}

// eachNoGroups calls visit for rows that are no groups of so many tests, and for numbers of tests that may not be.
func eachNoGroups(visit func(many int, groups [][]int)) {
	for many := 1; many <= 5; many++ {
		for _, groups := range noGroups(many) {
			visit(many, groups)
		}
	}
	for _, many := range badMany() {
		visit(many, nil)
		visit(many, [][]int{{}})
		eachGroups(func(_ int, groups [][]int) {
			if len(groups) <= 2 {
				visit(many, groups)
			}
		})
		if many >= 0 && many < 64 {
			visit(many, oneGroup(many))
			visit(many, ownGroups(many))
		}
	}
}

// eachNoGrouped calls visit for what lacks just one of tests and groups of them.
func eachNoGrouped(visit func(tests []impl.Test, groups [][]int)) {
	for _, tests := range badTests() {
		visit(tests, oneGroup(len(tests)))
		visit(tests, ownGroups(len(tests)))
		visit(tests, turnedRows(ownGroups(len(tests))))
		visit(tests, nil)
	}
	for many := 1; many <= 5; many++ {
		for _, groups := range noGroups(many) {
			visit(equalTests(many, 2), groups)
			visit(turnedTests(many, many+7), groups)
		}
	}
}

// checkArgumentsStay fails if what is called for tests and groups writes to them, or behind them, or returns other numbers if it is called again.
func checkArgumentsStay(t *testing.T, tests []impl.Test, groups [][]int, answersFor func(tests []impl.Test, groups [][]int) []int) {
	longTests, longGroups := append(slices.Clone(tests), impl.Test{Cost: 7, Chance: 7}), append(copied(groups), []int{7})
	for i, row := range longGroups {
		longGroups[i] = append(row, 7)[:len(row)]
	}
	// A row may stand in the same memory as the next one.
	all := slices.Concat(groups...)
	shared, left := [][]int{}, all
	for _, row := range groups {
		shared, left = append(shared, left[:len(row)]), left[len(row):]
	}
	testsBefore, groupsBefore, allBefore := slices.Clone(longTests), copied(longGroups), slices.Clone(all)
	first := answersFor(longTests[:len(tests)], longGroups[:len(groups)])
	for i, row := range longGroups {
		if row = row[:len(row)+1]; row[len(row)-1] != 7 || !slices.Equal(row[:len(row)-1], groupsBefore[i]) {
			t.Fatal(tests, groups, row)
		}
	}
	again := answersFor(tests, shared)
	if !slices.Equal(longTests, testsBefore) || len(longGroups) != len(groupsBefore) || !slices.Equal(all, allBefore) || !slices.Equal(first, again) {
		t.Fatal(longTests, longGroups, all, first, again)
	}
}
