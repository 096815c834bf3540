package tests

import (
	"slices"
	"testing"

	"loop.example/checksinorder/impl"
)

// way is a plan as a tree: a test, and what follows a no and a yes; where it stops there is none.
type way struct {
	ask     int
	no, yes *way
}

// nothingKnown is what is known of so many tests before one is asked.
func nothingKnown(many int) []int {
	return slices.Repeat([]int{-1}, many)
}

// with is what is known once a test has said something more.
func with(known []int, at, said int) []int {
	known = slices.Clone(known)
	known[at] = said
	return known
}

// wayBy is the way that asks tests by what is known, until the value is forced.
func wayBy(truth []bool, known []int, asks func(known []int) int) *way {
	if forcedIn(truth, known) != -1 {
		return nil
	}
	at := asks(known)
	return &way{at, wayBy(truth, with(known, at, 0), asks), wayBy(truth, with(known, at, 1), asks)}
}

// drawn asks one of the tests that are not known: which one differs by what is known, and from turn to turn.
func drawn(turn int) func(known []int) int {
	return func(known []int) int {
		var open []int
		mixed := turn
		for at, said := range known {
			mixed = 5*mixed + 3*said + mixed/7
			if said == -1 {
				open = append(open, at)
			}
		}
		return open[(mixed%len(open)+len(open))%len(open)]
	}
}

// along asks the tests of an order one after the other.
func along(order []int) func(known []int) int {
	return func(known []int) int {
		i := slices.IndexFunc(order, func(at int) bool { return known[at] == -1 })
		return order[i]
	}
}

// waysIn lists all ways to ask: those that ask a lesser test first, where they differ first, are ahead.
func waysIn(truth []bool, known []int) []*way {
	if forcedIn(truth, known) != -1 {
		return []*way{nil}
	}
	var ways []*way
	for at, said := range known {
		if said != -1 {
			continue
		}
		behindYes := waysIn(truth, with(known, at, 1))
		for _, no := range waysIn(truth, with(known, at, 0)) {
			for _, yes := range behindYes {
				ways = append(ways, &way{at, no, yes})
			}
		}
	}
	return ways
}

// askedBy lists the tests that a way asks in a state.
func (w *way) askedBy(state int) []int {
	if w == nil {
		return nil
	}
	next := w.no
	if saysYes(state, w.ask) {
		next = w.yes
	}
	return append([]int{w.ask}, next.askedBy(state)...)
}

// costBy is what a way costs in a state.
func (w *way) costBy(tests []impl.Test, state int) int {
	cost := 0
	for _, at := range w.askedBy(state) {
		cost += tests[at].Cost
	}
	return cost
}

// averageBy is what a way costs in all states, by their weights.
func (w *way) averageBy(tests []impl.Test) int {
	average := 0
	for state := range power(2, len(tests)) {
		average += impl.WeightOf(tests, state) * w.costBy(tests, state)
	}
	return average
}

// depth is how many tests a way asks at most.
func (w *way) depth() int {
	if w == nil {
		return 0
	}
	return 1 + max(w.no.depth(), w.yes.depth())
}

// noFirst lists a way and all behind it, all behind a no ahead of all behind the yes.
func noFirst(w *way) []*way {
	if w == nil {
		return nil
	}
	return slices.Concat([]*way{w}, noFirst(w.no), noFirst(w.yes))
}

// yesFirst lists all behind a yes ahead.
func yesFirst(w *way) []*way {
	if w == nil {
		return nil
	}
	return slices.Concat([]*way{w}, yesFirst(w.yes), yesFirst(w.no))
}

// byLevels lists what is asked as first, as second, and so on.
func byLevels(w *way) []*way {
	var list []*way
	level := []*way{w}
	for len(level) > 0 {
		var next []*way
		for _, w := range level {
			if w != nil {
				list = append(list, w)
				next = append(next, w.no, w.yes)
			}
		}
		level = next
	}
	return list
}

// layouts are ways to list what is asked, each one ahead of all behind it.
var layouts = []func(*way) []*way{noFirst, yesFirst, byLevels}

// planOf is the plan whose choices are listed so.
func planOf(list []*way) []impl.Choice {
	places := map[*way]int{nil: -1}
	for place, w := range list {
		places[w] = place
	}
	var plan []impl.Choice
	for _, w := range list {
		plan = append(plan, impl.Choice{Ask: w.ask, No: places[w.no], Yes: places[w.yes]})
	}
	return plan
}

// isPlan tells whether a plan is one for a term, by going all ways through it.
func isPlan(many int, truth []bool, plan []impl.Choice) bool {
	often := make([]int, len(plan))
	begin := -1
	if len(plan) > 0 {
		begin = 0
	}
	goes := goesOn(truth, plan, begin, nothingKnown(many), often)
	return goes && len(plan) <= 31 && !slices.ContainsFunc(often, func(ways int) bool { return ways != 1 })
}

// goesOn tells whether a plan goes on as it may from a place on, and counts how often it comes to each choice.
func goesOn(truth []bool, plan []impl.Choice, place int, known []int, often []int) bool {
	isForced := forcedIn(truth, known) != -1
	if place == -1 || isForced {
		return place == -1 && isForced
	}
	often[place]++
	choice := plan[place]
	if choice.Ask < 0 || choice.Ask >= len(known) || known[choice.Ask] != -1 {
		return false
	}
	for said, next := range []int{choice.No, choice.Yes} {
		if next != -1 && (next <= place || next >= len(plan)) {
			return false
		}
		if !goesOn(truth, plan, next, with(known, choice.Ask, said), often) {
			return false
		}
	}
	return true
}

// planned is a plan for a term of tests, with the way that it goes and the states in which the term is true.
type planned struct {
	tests []impl.Test
	term  []impl.Mark
	truth []bool
	way   *way
	plan  []impl.Choice
}

// eachPlanned calls visit for the terms of eachTested, each with a plan that is drawn; those of edgeTerms with more plans, in each layout.
func eachPlanned(visit func(p planned)) {
	turn := 0
	eachTested(func(tests []impl.Test, term []impl.Mark) {
		turn++
		truth, draws := truthOf(len(tests), term), 1
		if turn <= 4*len(edgeTerms) {
			draws = 9
		}
		for draw := range draws {
			w := wayBy(truth, nothingKnown(len(tests)), drawn(31*turn+7*draw))
			visit(planned{tests, term, truth, w, planOf(layouts[(turn+draw)%3](w))})
		}
	})
}

// checkPlannedStays fails if functions write to tests, to a term, to a plan, or to what stands behind them, or if they answer otherwise when they are called again.
func checkPlannedStays(t *testing.T, p planned, answersFor func(tests []impl.Test, term []impl.Mark, plan []impl.Choice) []int) {
	tests, term := append(slices.Clone(p.tests), impl.Test{Cost: 7, Chance: 7}), append(slices.Clone(p.term), nots(5)...)
	plan := append(slices.Clone(p.plan), impl.Choice{Ask: 7, No: 7, Yes: 7})
	testsBefore, termBefore, planBefore := slices.Clone(tests), slices.Clone(term), slices.Clone(plan)
	first := answersFor(tests[:len(p.tests)], term[:len(p.term)], plan[:len(p.plan)])
	if !slices.Equal(tests, testsBefore) || !slices.Equal(term, termBefore) || !slices.Equal(plan, planBefore) {
		t.Fatal(tests, term, plan)
	}
	if again := answersFor(p.tests, p.term, p.plan); !slices.Equal(first, again) {
		t.Fatal("called again", p.tests, p.term, p.plan, first, again)
	}
}

// leastBy is what the ways that cost least cost in all states that agree with what is known, by their weights, and the least test that such a way asks first.
type leastBy struct {
	cost, ask int
}

// leastAt tells it for what is known; the table has what is told already, by texts of what is known.
func leastAt(table map[string]leastBy, tests []impl.Test, truth []bool, known []int) leastBy {
	least, isThere := table[keyOf(known)]
	if isThere {
		return least
	}
	least = leastBy{ask: -1}
	if forcedIn(truth, known) == -1 {
		weight := 0
		for _, state := range agreeing(known) {
			weight += impl.WeightOf(tests, state)
		}
		for at, said := range known {
			if said != -1 {
				continue
			}
			cost := weight * tests[at].Cost
			for answer := range 2 {
				cost += leastAt(table, tests, truth, with(known, at, answer)).cost
			}
			if least.ask == -1 || cost < least.cost {
				least = leastBy{cost, at}
			}
		}
	}
	table[keyOf(known)] = least
	return least
}

// keyOf is a row of what is known as a text.
func keyOf(known []int) string {
	key := make([]byte, len(known))
	for at, said := range known {
		key[at] = "?01"[said+1]
	}
	return string(key)
}

// bestWay is the way that costs least, of equal ones with the least test at each choice; and what it costs.
func bestWay(tests []impl.Test, truth []bool) (*way, int) {
	table, nothing := map[string]leastBy{}, nothingKnown(len(tests))
	least := leastAt(table, tests, truth, nothing).cost
	return wayBy(truth, nothing, func(known []int) int { return table[keyOf(known)].ask }), least
}

// leastDepthIn is the least depth of all ways.
func leastDepthIn(truth []bool, known []int) int {
	if forcedIn(truth, known) != -1 {
		return 0
	}
	least := len(known)
	for at, said := range known {
		if said == -1 {
			least = min(least, 1+max(leastDepthIn(truth, with(known, at, 0)), leastDepthIn(truth, with(known, at, 1))))
		}
	}
	return least
}

// choiceRows are the choices of a plan: the test, and what follows a no and a yes.
type choiceRows = [][3]int

// choicesOf is the plan of such rows.
func choicesOf(list choiceRows) []impl.Choice {
	plan := make([]impl.Choice, len(list))
	for place, row := range list {
		plan[place] = impl.Choice{Ask: row[0], No: row[1], Yes: row[2]}
	}
	return plan
}

// noPlans are plans that are none for a term for so many tests, as its marks stand, with what is easily forgotten.
var noPlans = []struct {
	many  int
	signs string
	rows  choiceRows
}{
	// No choices, though the value is open; and choices, though it is forced from the first on.
	{1, "a", nil}, {5, "e", nil}, {2, "ab&", choiceRows{}},
	{1, "aa!|", choiceRows{{0, -1, -1}}}, {5, "ee!&", choiceRows{{4, -1, -1}}}, {2, "aa!|", choiceRows{{1, 1, 2}, {0, -1, -1}, {0, -1, -1}}},
	// A test that is not there, that is asked twice, or that is not asked where it is needed.
	{1, "a", choiceRows{{1, -1, -1}}}, {1, "a", choiceRows{{-1, -1, -1}}}, {4, "a", choiceRows{{4, 1, 2}, {0, -1, -1}, {0, -1, -1}}}, {2, "a", choiceRows{{1, -1, -1}}},
	{2, "ab&", choiceRows{{0, -1, 1}, {0, -1, -1}}}, {2, "ab&", choiceRows{{0, -1, 1}, {0, -1, 2}, {1, -1, -1}}}, {3, "ab&c&", choiceRows{{0, -1, 1}, {1, -1, 2}, {0, -1, -1}}},
	{3, "ab&c&", choiceRows{{2, -1, 1}, {1, -1, 2}, {2, -1, 3}, {0, -1, -1}}}, {2, "ab|", choiceRows{{1, 1, -1}, {1, -1, -1}}},
	// It stops where the value is open, or goes on where it is forced: behind a no, or behind a yes.
	{2, "ab&", choiceRows{{0, -1, -1}}}, {2, "ab|", choiceRows{{0, -1, -1}}}, {2, "ab&", choiceRows{{0, 1, -1}, {1, -1, -1}}}, {2, "ab|", choiceRows{{0, -1, 1}, {1, -1, -1}}},
	{2, "ab&", choiceRows{{0, 1, 2}, {1, -1, -1}, {1, -1, -1}}}, {2, "ab|", choiceRows{{0, 1, 2}, {1, -1, -1}, {1, -1, -1}}}, {2, "a", choiceRows{{0, 1, -1}, {1, -1, -1}}}, {2, "a", choiceRows{{0, -1, 1}, {1, -1, -1}}},
	{3, "ab&a!c&|", choiceRows{{0, 1, -1}, {2, -1, -1}}}, {3, "ab&a!c&|", choiceRows{{0, -1, 1}, {1, -1, -1}}},
	// An answer forces nothing, and yet it stops.
	{2, "b", choiceRows{{0, 1, -1}, {1, -1, -1}}}, {2, "b", choiceRows{{0, -1, 1}, {1, -1, -1}}}, {2, "ab!&a!b&|", choiceRows{{0, -1, 1}, {1, -1, -1}}},
	// A choice is come to by two ways, by none, by itself, or from behind.
	{2, "b", choiceRows{{0, 1, 1}, {1, -1, -1}}}, {2, "ab!&a!b&|", choiceRows{{1, 1, 1}, {0, -1, -1}}}, {3, "ab&a!c&|", choiceRows{{2, 1, 2}, {0, 3, 3}, {0, 4, 5}, {1, -1, -1}, {1, -1, -1}, {1, -1, -1}}},
	{1, "a", choiceRows{{0, -1, -1}, {0, -1, -1}}}, {2, "a", choiceRows{{0, -1, -1}, {1, -1, -1}}}, {2, "ab&", choiceRows{{0, -1, 2}, {1, -1, -1}, {1, -1, -1}}}, {1, "aa!|", choiceRows{{0, 1, 1}, {0, -1, -1}}},
	{1, "a", choiceRows{{0, 0, -1}}}, {1, "a", choiceRows{{0, -1, 0}}}, {1, "a", choiceRows{{0, 0, 0}}}, {2, "ab&", choiceRows{{0, -1, 1}, {1, 0, -1}}}, {2, "ab&", choiceRows{{0, -1, 1}, {1, -1, 1}}},
	{2, "ab&", choiceRows{{1, -1, -1}, {0, -1, 0}}}, {2, "b", choiceRows{{0, 2, 1}, {1, -1, 0}, {1, -1, -1}}}, {3, "ab&c&", choiceRows{{0, -1, 2}, {2, -1, -1}, {1, -1, 1}}},
	// A place behind the last choice, or before the first one.
	{2, "ab&", choiceRows{{0, -1, 1}}}, {2, "ab&", choiceRows{{0, -1, 2}, {1, -1, -1}}}, {2, "ab&", choiceRows{{0, -2, 1}, {1, -1, -1}}}, {1, "a", choiceRows{{0, -2, -1}}}, {1, "a", choiceRows{{0, -1, -2}}}, {1, "a", choiceRows{{0, 1, -1}}}, {2, "ab|", choiceRows{{0, 1 << 32, -1}, {1, -1, -1}}},
	// More than MaxChoices choices.
	{5, "e", slices.Repeat(choiceRows{{4, -1, -1}}, 32)}, {1, "aa!|", slices.Repeat(choiceRows{{0, -1, -1}}, 32)}, {1, "a", slices.Repeat(choiceRows{{0, -1, -1}}, 1000)},
}
