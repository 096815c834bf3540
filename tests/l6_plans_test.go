package tests

import (
	"math/bits"
	"slices"
	"testing"

	"loop.example/checksinorder/impl"
)

// Promise 38.

func TestSomePlans(t *testing.T) {
	for _, plan := range []struct {
		many  int
		signs string
		rows  choiceRows
	}{
		{1, "aa!|", nil}, {1, "aa!&", choiceRows{}}, {5, "ee!&", nil}, {5, "abcdee!|||||", nil}, {5, "aa!|bb!|&", nil},
		{1, "a", choiceRows{{0, -1, -1}}}, {5, "e!", choiceRows{{4, -1, -1}}}, {2, "aa!&b|", choiceRows{{1, -1, -1}}},
		{2, "ab&", choiceRows{{0, -1, 1}, {1, -1, -1}}}, {2, "ab&", choiceRows{{1, -1, 1}, {0, -1, -1}}}, {2, "ab|", choiceRows{{0, 1, -1}, {1, -1, -1}}},
		// An answer forces nothing.
		{2, "b", choiceRows{{0, 1, 2}, {1, -1, -1}, {1, -1, -1}}}, {2, "b", choiceRows{{0, 2, 1}, {1, -1, -1}, {1, -1, -1}}},
		{2, "aa!&b|", choiceRows{{0, 1, 2}, {1, -1, -1}, {1, -1, -1}}}, {2, "ab!&a!b&|", choiceRows{{1, 1, 2}, {0, -1, -1}, {0, -1, -1}}},
		// Other tests by other answers, listed in one order or another.
		{3, "ab&a!c&|", choiceRows{{0, 1, 2}, {2, -1, -1}, {1, -1, -1}}}, {3, "ab&a!c&|", choiceRows{{0, 2, 1}, {1, -1, -1}, {2, -1, -1}}},
		{3, "ab|c!&", choiceRows{{2, 1, -1}, {0, 2, -1}, {1, -1, -1}}}, {3, "ab|c!&", choiceRows{{0, 1, 3}, {1, -1, 2}, {2, -1, -1}, {2, -1, -1}}}, {3, "ab|c!&", choiceRows{{0, 1, 2}, {1, -1, 3}, {2, -1, -1}, {2, -1, -1}}}, {3, "ab|c!&", choiceRows{{0, 3, 1}, {1, 2, 4}, {2, -1, -1}, {2, 5, -1}, {2, -1, -1}, {1, -1, -1}}},
	} {
		if !impl.PlanOk(plan.many, marksOf(plan.signs), choicesOf(plan.rows)) {
			t.Fatal(plan)
		}
	}
}

func TestSomeThatAreNoPlans(t *testing.T) {
	for _, plan := range noPlans {
		if impl.PlanOk(plan.many, marksOf(plan.signs), choicesOf(plan.rows)) {
			t.Fatal(plan)
		}
	}
}

func TestWhatAsksUntilTheValueIsForcedIsAPlan(t *testing.T) {
	eachPlanned(func(p planned) {
		if !impl.PlanOk(len(p.tests), p.term, p.plan) {
			t.Fatal(p.term, p.plan)
		}
	})
}

// eachChanged calls visit for plans that differ from one in just one number, in one choice fewer or more, or in two choices exchanged.
func eachChanged(plan []impl.Choice, visit func(changed []impl.Choice)) {
	numbers := append(farNumbers(), ascending(len(plan)+2)...)
	for place := range plan {
		for _, number := range numbers {
			for _, field := range []func(*impl.Choice) *int{
				func(c *impl.Choice) *int { return &c.Ask },
				func(c *impl.Choice) *int { return &c.No },
				func(c *impl.Choice) *int { return &c.Yes },
			} {
				changed := slices.Clone(plan)
				*field(&changed[place]) = number
				visit(changed)
			}
		}
		for other := range place {
			changed := slices.Clone(plan)
			changed[place], changed[other] = changed[other], changed[place]
			visit(changed)
		}
		visit(slices.Delete(slices.Clone(plan), place, place+1))
		visit(append(slices.Clone(plan), plan[place]))
	}
	visit(slices.Insert(slices.Clone(plan), 0, impl.Choice{Ask: 0, No: -1, Yes: -1}))
	visit(append(slices.Clone(plan), impl.Choice{Ask: 0, No: -1, Yes: -1}))
	visit(nil)
}

func TestChangedPlansAreSeldomPlans(t *testing.T) {
	seen, some := 0, 0
	eachPlanned(func(p planned) {
		seen++
		if seen > 300 && seen%101 != 0 {
			return
		}
		many := len(p.tests)
		eachChanged(p.plan, func(changed []impl.Choice) {
			want := isPlan(many, p.truth, changed)
			if impl.PlanOk(many, p.term, changed) != want {
				t.Fatal(p.term, p.plan, changed, want)
			}
			if want && !slices.Equal(changed, p.plan) {
				some++
			}
		})
	})
	if some < 100 {
		t.Fatal("too few that are plans again", some)
	}
}

// eachFewChoices calls visit for all rows of so many choices with tests, and places from Stop on; and with numbers that are so much less or more.
func eachFewChoices(many, length, beyond int, visit func(plan []impl.Choice)) {
	var single []impl.Choice
	for ask := -beyond; ask < many+beyond; ask++ {
		for _, next := range rowsOf(2, -1-beyond, length-1+beyond) {
			single = append(single, impl.Choice{Ask: ask, No: next[0], Yes: next[1]})
		}
	}
	for _, turns := range rowsOf(length, 0, len(single)-1) {
		plan := make([]impl.Choice, length)
		for place, turn := range turns {
			plan[place] = single[turn]
		}
		visit(plan)
	}
}

func TestAllRowsOfAFewChoices(t *testing.T) {
	for _, few := range []struct {
		many  int
		signs string
		want  [4]int
	}{
		// How many plans of no, of one, of two and of three choices there are.
		{1, "a", [4]int{0, 1, 0, 0}}, {1, "a!", [4]int{0, 1, 0, 0}}, {1, "aa!|", [4]int{1, 0, 0, 0}}, {2, "a", [4]int{0, 1, 0, 2}}, {2, "b", [4]int{0, 1, 0, 2}},
		{2, "ab&", [4]int{0, 0, 2, 0}}, {2, "ab|", [4]int{0, 0, 2, 0}}, {2, "ab!&", [4]int{0, 0, 2, 0}}, {2, "ab!&a!b&|", [4]int{0, 0, 0, 4}}, {2, "bb!&", [4]int{1, 0, 0, 0}}, {2, "aa!&b|", [4]int{0, 1, 0, 2}},
		{3, "ac&", [4]int{0, 0, 2, 0}}, {3, "ab&c&", [4]int{0, 0, 0, 6}}, {3, "ab&a!c&|", [4]int{0, 0, 0, 2}}, {3, "c!", [4]int{0, 1, 0, 4}},
	} {
		term := marksOf(few.signs)
		truth := truthOf(few.many, term)
		for length, want := range few.want {
			// With three choices there would be too many others.
			eachFewChoices(few.many, length, 1-length/3, func(plan []impl.Choice) {
				got := impl.PlanOk(few.many, term, plan)
				if got != isPlan(few.many, truth, plan) {
					t.Fatal(few, plan, got)
				}
				if got {
					want--
				}
			})
			if want != 0 {
				t.Fatal(few, length, want)
			}
		}
	}
}

// turned is a plan with No and Yes of each choice exchanged.
func turned(plan []impl.Choice) []impl.Choice {
	plan = slices.Clone(plan)
	for place, choice := range plan {
		plan[place].No, plan[place].Yes = choice.Yes, choice.No
	}
	return plan
}

func TestPlansAreForTheDualTermAndForNotSoAsWell(t *testing.T) {
	turn := 0
	eachPlanned(func(p planned) {
		many, dual := len(p.tests), impl.DualTerm(len(p.tests), p.term)
		not, fits := withNot(p.term)
		isSo := func(plan []impl.Choice) {
			want := isPlan(many, p.truth, plan)
			if impl.PlanOk(many, dual, turned(plan)) != want || fits && impl.PlanOk(many, not, plan) != want {
				t.Fatal(p.term, plan, want)
			}
		}
		isSo(p.plan)
		turn++
		if turn%97 == 0 {
			eachChanged(p.plan, isSo)
		}
	})
	for _, plan := range noPlans {
		term, choices := marksOf(plan.signs), choicesOf(plan.rows)
		not, fits := withNot(term)
		if impl.PlanOk(plan.many, impl.DualTerm(plan.many, term), turned(choices)) || fits && impl.PlanOk(plan.many, not, choices) {
			t.Fatal(plan)
		}
	}
}

func TestPlansHaveAtMostMaxChoices(t *testing.T) {
	for _, order := range [][]int{{0, 1, 2, 3, 4}, {3, 2, 1, 0, 4}} {
		for _, layout := range layouts {
			plan := planOf(layout(wayBy(truthOf(5, marksOf("e")), nothingKnown(5), along(order))))
			if len(plan) != impl.MaxChoices || !impl.PlanOk(5, marksOf("e"), plan) {
				t.Fatal(len(plan), plan)
			}
			for more := range 4 {
				long := append(slices.Clone(plan), slices.Repeat([]impl.Choice{{Ask: more, No: -1, Yes: -1}}, more+1)...)
				if impl.PlanOk(5, marksOf("e"), long) {
					t.Fatal(long)
				}
			}
		}
	}
}

// eachNoTermed calls visit for plans of what is no term for so many tests.
func eachNoTermed(visit func(many int, term []impl.Mark, plan []impl.Choice)) {
	eachNoTerm(func(many int, term []impl.Mark) {
		for _, list := range []choiceRows{nil, {{0, -1, -1}}, {{0, -1, 1}, {1, -1, -1}}} {
			visit(many, term, choicesOf(list))
		}
	})
}

// eachNoPlan calls visit for what is no term, and for noPlans.
func eachNoPlan(visit func(many int, term []impl.Mark, plan []impl.Choice)) {
	eachNoTermed(visit)
	for _, plan := range noPlans {
		visit(plan.many, marksOf(plan.signs), choicesOf(plan.rows))
	}
}

// eachNoPlanned calls visit for what lacks just one of tests, a term for them, and a plan for it.
func eachNoPlanned(visit func(tests []impl.Test, term []impl.Mark, plan []impl.Choice)) {
	for _, tests := range badTests() {
		visit(tests, marksOf("a"), choicesOf(choiceRows{{0, -1, -1}}))
		visit(tests, marksOf("aa!|"), nil)
	}
	eachNoPlan(func(many int, term []impl.Mark, plan []impl.Choice) {
		if many >= 1 && many <= 5 {
			visit(equalTests(many, 2), term, plan)
		}
	})
}

func TestPlanOkOfOthers(t *testing.T) {
	eachNoPlan(func(many int, term []impl.Mark, plan []impl.Choice) {
		if impl.PlanOk(many, term, plan) {
			t.Fatal(many, term, plan)
		}
	})
}

// Promise 39.

func TestWhatAPlanAsksIsAProof(t *testing.T) {
	eachPlanned(func(p planned) {
		many := len(p.tests)
		for state := range power(2, many) {
			_, some, ok := impl.CostBy(p.tests, p.term, p.plan, state)
			if !ok || !impl.ProofOk(many, p.term, state, some) {
				t.Fatal("no proof", p.term, p.plan, state, some, ok)
			}
			if !slices.ContainsFunc(impl.LeastProofs(many, p.term, state), func(least int) bool { return isWithinSet(least, some) }) {
				t.Fatal("without a least proof", p.term, p.plan, state, some)
			}
		}
	})
}

func TestAPlanCostsWhatItsTestsCost(t *testing.T) {
	eachPlanned(func(p planned) {
		for state := range power(2, len(p.tests)) {
			cost, some, ok := impl.CostBy(p.tests, p.term, p.plan, state)
			if asked := p.way.askedBy(state); !ok || some != setOf(asked) || cost != p.way.costBy(p.tests, state) {
				t.Fatal(p.tests, p.term, p.plan, state, cost, some, ok, asked)
			}
			for at, test := range p.tests {
				if saysYes(some, at) {
					cost -= test.Cost
				}
			}
			if cost != 0 {
				t.Fatal("not what the tests cost", p.tests, p.term, p.plan, state, some, cost)
			}
		}
	})
}

func TestCostBySomePlans(t *testing.T) {
	tests := []impl.Test{{Cost: 2, Chance: 3}, {Cost: 5, Chance: 1}, {Cost: 1, Chance: 2}}
	for _, by := range []struct {
		signs string
		rows  choiceRows
		costs []int
		asked []int
	}{
		{"ab|c!&", choiceRows{{2, 1, -1}, {0, 2, -1}, {1, -1, -1}}, []int{8, 3, 8, 3, 1, 1, 1, 1}, []int{7, 5, 7, 5, 4, 4, 4, 4}},
		{"ab&a!c&|", choiceRows{{0, 2, 1}, {1, -1, -1}, {2, -1, -1}}, []int{3, 7, 3, 7, 3, 7, 3, 7}, []int{5, 3, 5, 3, 5, 3, 5, 3}},
		{"b", choiceRows{{0, 1, 2}, {1, -1, -1}, {1, -1, -1}}, []int{7, 7, 7, 7, 7, 7, 7, 7}, []int{3, 3, 3, 3, 3, 3, 3, 3}},
		{"bb!|", nil, []int{0, 0, 0, 0, 0, 0, 0, 0}, []int{0, 0, 0, 0, 0, 0, 0, 0}},
	} {
		for state := range 8 {
			cost, some, ok := impl.CostBy(tests, marksOf(by.signs), choicesOf(by.rows), state)
			if !ok || cost != by.costs[state] || some != by.asked[state] {
				t.Fatal(by, state, cost, some, ok)
			}
		}
	}
}

func TestCostByOfOthers(t *testing.T) {
	eachNoPlanned(func(tests []impl.Test, term []impl.Mark, plan []impl.Choice) {
		for _, state := range []int{0, 1, power(2, min(len(tests), 5)) - 1} {
			if cost, some, ok := impl.CostBy(tests, term, plan, state); cost != 0 || some != 0 || ok {
				t.Fatal(tests, term, plan, state, cost, some, ok)
			}
		}
	})
	for many := 1; many <= 5; many++ {
		for _, state := range badStates(many) {
			for _, list := range []struct {
				signs string
				rows  choiceRows
			}{{"a", choiceRows{{0, -1, -1}}}, {"aa!&", nil}} {
				if cost, some, ok := impl.CostBy(equalTests(many, 2), marksOf(list.signs), choicesOf(list.rows), state); cost != 0 || some != 0 || ok {
					t.Fatal(many, list, state, cost, some, ok)
				}
			}
		}
	}
}

// Promise 40.

func TestAveragesOfPlansAreSumsOverStates(t *testing.T) {
	eachPlanned(func(p planned) {
		sum := 0
		for state := range power(2, len(p.tests)) {
			cost, _, _ := impl.CostBy(p.tests, p.term, p.plan, state)
			sum += impl.WeightOf(p.tests, state) * cost
		}
		got, want := impl.AverageBy(p.tests, p.term, p.plan), p.way.averageBy(p.tests)
		if got != want || got != sum {
			t.Fatal(p.tests, p.term, p.plan, got, want, sum)
		}
	})
}

func TestNoPlanCostsLessThanTheBestOneOrMoreThanAllTests(t *testing.T) {
	eachPlanned(func(p planned) {
		average := impl.AverageBy(p.tests, p.term, p.plan)
		least, most := impl.BestAverage(p.tests, p.term), power(6, len(p.tests))*impl.CostOf(p.tests)
		if average < least || average > most || (average == 0) != (len(p.plan) == 0) {
			t.Fatal(p.tests, p.term, p.plan, average, least, most)
		}
	})
}

func TestAverageBySomePlans(t *testing.T) {
	tests := []impl.Test{{Cost: 2, Chance: 3}, {Cost: 5, Chance: 1}, {Cost: 1, Chance: 2}}
	for _, average := range []struct {
		signs string
		rows  choiceRows
		want  int
	}{
		{"ab|c!&", choiceRows{{2, 1, -1}, {0, 2, -1}, {1, -1, -1}}, 864}, {"ab|c!&", choiceRows{{2, 1, -1}, {1, 2, -1}, {0, -1, -1}}, 216 + 144*5 + 120*2},
		{"ab|c!&", choiceRows{{0, 1, 3}, {1, -1, 2}, {2, -1, -1}, {2, -1, -1}}, 216*2 + 108*5 + 18 + 108},
		{"ab&a!c&|", choiceRows{{0, 2, 1}, {1, -1, -1}, {2, -1, -1}}, 1080}, {"b", choiceRows{{0, 1, 2}, {1, -1, -1}, {1, -1, -1}}, 216 * 7}, {"b", choiceRows{{1, -1, -1}}, 216 * 5}, {"cc!|", nil, 0},
	} {
		if got := impl.AverageBy(tests, marksOf(average.signs), choicesOf(average.rows)); got != average.want {
			t.Fatal(average, got)
		}
	}
	eachTests(func(tests []impl.Test) {
		for at, test := range tests {
			plan := []impl.Choice{{Ask: at, No: -1, Yes: -1}}
			if got := impl.AverageBy(tests, marksOf("abcde"[at:at+1]), plan); got != power(6, len(tests))*test.Cost {
				t.Fatal(tests, at, got)
			}
		}
	})
}

func TestAverageByOfOthers(t *testing.T) {
	eachNoPlanned(func(tests []impl.Test, term []impl.Mark, plan []impl.Choice) {
		if got := impl.AverageBy(tests, term, plan); got != -1 {
			t.Fatal(tests, term, plan, got)
		}
	})
}

// Promise 41.

func TestBestAverageOfSomeTerms(t *testing.T) {
	tests := []impl.Test{{Cost: 2, Chance: 3}, {Cost: 5, Chance: 1}, {Cost: 1, Chance: 2}}
	dear := []impl.Test{{Cost: 9, Chance: 1}, {Cost: 1, Chance: 5}}
	for _, best := range []struct {
		tests []impl.Test
		signs string
		want  int
	}{
		{tests, "ab|c!&", 864}, {tests, "ab&a!c&|", 1080}, {tests, "a", 432}, {tests, "b!", 1080}, {tests, "aa!&b|", 1080}, {tests, "aa!|", 0}, {tests, "abc||", 216 + 144*2 + 72*5},
		{dear, "ab&", 36 + 30*9}, {dear, "ab|", 36 + 6*9}, {dear, "ab!&a!b&|", 360}, {dear, "bb!&", 0}, {equalTests(1, 3), "a", 54},
	} {
		if got := impl.BestAverage(best.tests, marksOf(best.signs)); got != best.want {
			t.Fatal(best, got)
		}
	}
}

func TestTheBestAverageIsTheLeastOfAllWays(t *testing.T) {
	eachTested(func(tests []impl.Test, term []impl.Mark) {
		_, want := bestWay(tests, truthOf(len(tests), term))
		if got := impl.BestAverage(tests, term); got != want {
			t.Fatal(tests, term, got, want)
		}
	})
}

func TestNoOrderIsBetterThanTheBestPlan(t *testing.T) {
	eachTested(func(tests []impl.Test, term []impl.Mark) {
		got := impl.BestAverage(tests, term)
		if _, least := impl.BestOrder(tests, term); got < 0 || got > least {
			t.Fatal(tests, term, got, least)
		}
		if other := impl.BestAverage(impl.OtherTests(tests), impl.DualTerm(len(tests), term)); other != got {
			t.Fatal("of the dual term by the other tests", tests, term, got, other)
		}
	})
}

func TestForARowNoPlanIsBetterThanTheOrderByRatios(t *testing.T) {
	turn := 0
	eachRow(func(tests []impl.Test, row int) {
		turn++
		if len(tests) > 3 && turn%5 != 0 {
			return
		}
		want := impl.RowAverage(tests, impl.RatioOrder(tests, row), row)
		if got := impl.BestAverage(tests, impl.RowTerm(len(tests), row)); got != want {
			t.Fatal(tests, row, got, want)
		}
	})
}

// eachNoTested calls visit for what lacks just one of tests, and a term for them.
func eachNoTested(visit func(tests []impl.Test, term []impl.Mark)) {
	for _, tests := range badTests() {
		for _, signs := range []string{"a", "aa!|", "aa!&"} {
			visit(tests, marksOf(signs))
		}
	}
	eachNoTerm(func(many int, term []impl.Mark) {
		if many >= 1 && many <= 5 {
			visit(equalTests(many, 2), term)
		}
	})
}

func TestBestAverageOfOthers(t *testing.T) {
	eachNoTested(func(tests []impl.Test, term []impl.Mark) {
		if got := impl.BestAverage(tests, term); got != -1 {
			t.Fatal(tests, term, got)
		}
	})
}

// Promise 42.

func TestBestPlansOfSomeTerms(t *testing.T) {
	tests := []impl.Test{{Cost: 2, Chance: 3}, {Cost: 5, Chance: 1}, {Cost: 1, Chance: 2}}
	equal := equalTests(3, 3)
	for _, best := range []struct {
		tests []impl.Test
		signs string
		want  choiceRows
	}{
		{tests, "ab|c!&", choiceRows{{2, 1, -1}, {0, 2, -1}, {1, -1, -1}}}, {tests, "ab&a!c&|", choiceRows{{0, 1, 2}, {2, -1, -1}, {1, -1, -1}}},
		{tests, "b!", choiceRows{{1, -1, -1}}}, {tests, "aa!|", nil}, {tests, "cc!&", nil}, {equalTests(5, 1), "abcdee!|||||", nil},
		// Of equal averages the least test is asked: first, and behind each answer.
		{equal, "ab&", choiceRows{{0, -1, 1}, {1, -1, -1}}}, {equal, "cb|", choiceRows{{1, 1, -1}, {2, -1, -1}}}, {equal, "cb&a&", choiceRows{{0, -1, 1}, {1, -1, 2}, {2, -1, -1}}},
		{equal, "ab!&a!b&|", choiceRows{{0, 1, 2}, {1, -1, -1}, {1, -1, -1}}}, {equal, "bc!&b!c&|", choiceRows{{1, 1, 2}, {2, -1, -1}, {2, -1, -1}}},
		{equal, "ab&ab|c&|", choiceRows{{0, 1, 3}, {1, -1, 2}, {2, -1, -1}, {1, 4, -1}, {2, -1, -1}}},
		{[]impl.Test{{Cost: 2, Chance: 2}, {Cost: 1, Chance: 4}}, "ab|", choiceRows{{1, 1, -1}, {0, -1, -1}}}, {[]impl.Test{{Cost: 2, Chance: 4}, {Cost: 1, Chance: 2}}, "ab|", choiceRows{{0, 1, -1}, {1, -1, -1}}},
	} {
		if got, ok := impl.BestPlan(best.tests, marksOf(best.signs)); !ok || !slices.Equal(got, choicesOf(best.want)) {
			t.Fatal(best, got, ok)
		}
	}
}

func TestTheBestPlanIsFound(t *testing.T) {
	eachTested(func(tests []impl.Test, term []impl.Mark) {
		many := len(tests)
		plan, ok := impl.BestPlan(tests, term)
		if !ok || !impl.PlanOk(many, term, plan) || impl.AverageBy(tests, term, plan) != impl.BestAverage(tests, term) {
			t.Fatal(tests, term, plan, ok)
		}
		idle := impl.IdleTests(many, term)
		if slices.ContainsFunc(plan, func(choice impl.Choice) bool { return saysYes(idle, choice.Ask) }) {
			t.Fatal("asks what never matters", tests, term, plan)
		}
	})
}

func TestTheBestPlanAsksTheLeastTestsInTheOrderInWhichTheyAreComeTo(t *testing.T) {
	eachTested(func(tests []impl.Test, term []impl.Mark) {
		w, _ := bestWay(tests, truthOf(len(tests), term))
		want := planOf(noFirst(w))
		if got, ok := impl.BestPlan(tests, term); !ok || !slices.Equal(got, want) {
			t.Fatal(tests, term, got, ok, want)
		}
	})
}

func TestTheBestPlanIsTheFirstOfAllThatCostLeast(t *testing.T) {
	turn := 0
	eachTested(func(tests []impl.Test, term []impl.Mark) {
		turn++
		if len(tests) == 5 || len(tests) == 4 && turn%7 != 0 {
			return
		}
		ways := waysIn(truthOf(len(tests), term), nothingKnown(len(tests)))
		best, least := ways[0], ways[0].averageBy(tests)
		for _, w := range ways[1:] {
			if average := w.averageBy(tests); average < least {
				best, least = w, average
			}
		}
		got, ok := impl.BestPlan(tests, term)
		if !ok || !slices.Equal(got, planOf(noFirst(best))) || impl.BestAverage(tests, term) != least {
			t.Fatal(tests, term, got, ok, planOf(noFirst(best)), least)
		}
	})
}

func TestBestPlanOfOthers(t *testing.T) {
	eachNoTested(func(tests []impl.Test, term []impl.Mark) {
		if plan, ok := impl.BestPlan(tests, term); len(plan) != 0 || ok {
			t.Fatal(tests, term, plan, ok)
		}
	})
}

// Promise 43.

func TestPlansOfSomeOrders(t *testing.T) {
	for _, plan := range []struct {
		many  int
		signs string
		order []int
		want  choiceRows
	}{
		{1, "a", []int{0}, choiceRows{{0, -1, -1}}}, {1, "aa!|", []int{0}, nil}, {5, "ee!&", []int{4, 3, 2, 1, 0}, nil},
		{3, "ab|c!&", []int{0, 1, 2}, choiceRows{{0, 1, 3}, {1, -1, 2}, {2, -1, -1}, {1, 4, 5}, {2, -1, -1}, {2, -1, -1}}},
		{3, "ab|c!&", []int{2, 0, 1}, choiceRows{{2, 1, -1}, {0, 2, -1}, {1, -1, -1}}},
		{3, "ab|c!&", []int{2, 1, 0}, choiceRows{{2, 1, -1}, {1, 2, -1}, {0, -1, -1}}},
		{2, "b", []int{0, 1}, choiceRows{{0, 1, 2}, {1, -1, -1}, {1, -1, -1}}}, {2, "b", []int{1, 0}, choiceRows{{1, -1, -1}}}, {2, "aa!&b|", []int{0, 1}, choiceRows{{0, 1, 2}, {1, -1, -1}, {1, -1, -1}}},
		{3, "ab&c&", []int{1, 2, 0}, choiceRows{{1, -1, 1}, {2, -1, 2}, {0, -1, -1}}}, {3, "ab|c|", []int{1, 2, 0}, choiceRows{{1, 1, -1}, {2, 2, -1}, {0, -1, -1}}},
	} {
		if got, ok := impl.OrderPlan(plan.many, marksOf(plan.signs), plan.order); !ok || !slices.Equal(got, choicesOf(plan.want)) {
			t.Fatal(plan, got, ok)
		}
	}
}

func TestThePlanOfAnOrderAsksItsTestsInTheOrderInWhichTheyAreComeTo(t *testing.T) {
	eachOrdered(func(tests []impl.Test, term []impl.Mark, order []int) {
		many := len(tests)
		want := planOf(noFirst(wayBy(truthOf(many, term), nothingKnown(many), along(order))))
		if got, ok := impl.OrderPlan(many, term, order); !ok || !slices.Equal(got, want) {
			t.Fatal(term, order, got, ok, want)
		}
	})
}

func TestOrdersArePlans(t *testing.T) {
	eachOrdered(func(tests []impl.Test, term []impl.Mark, order []int) {
		many := len(tests)
		plan, ok := impl.OrderPlan(many, term, order)
		if !ok || !impl.PlanOk(many, term, plan) || impl.DepthOf(many, term, plan) > many {
			t.Fatal(term, order, plan, ok)
		}
		if got, want := impl.AverageBy(tests, term, plan), impl.AverageIn(tests, term, order); got != want {
			t.Fatal("on average", tests, term, order, got, want)
		}
		for state := range power(2, many) {
			cost, some, _ := impl.CostBy(tests, term, plan, state)
			if cost != impl.CostIn(tests, term, order, state) || bits.OnesCount(uint(some)) != impl.AskedIn(many, term, order, state) {
				t.Fatal(tests, term, order, state, cost, some)
			}
		}
	})
}

func TestThePlanOfAnOrderMayHaveMaxChoices(t *testing.T) {
	for _, order := range ordersOf(5) {
		plan, ok := impl.OrderPlan(5, marksOf("abcde"[order[4]:][:1]), order)
		if !ok || len(plan) != impl.MaxChoices {
			t.Fatal(order, plan, ok)
		}
	}
}

func TestOrderPlanOfOthers(t *testing.T) {
	eachNotOrdered(func(many int, term []impl.Mark, order []int, state int) {
		if impl.TermOk(many, term) && impl.OrderOk(many, order) {
			return
		}
		if plan, ok := impl.OrderPlan(many, term, order); len(plan) != 0 || ok {
			t.Fatal(many, term, order, plan, ok)
		}
	})
}

// Promise 44.

func TestNoStateIsAskedMoreThanTheDepth(t *testing.T) {
	eachPlanned(func(p planned) {
		many, most := len(p.tests), 0
		for state := range power(2, many) {
			cost, _, _ := impl.CostBy(onesOf(many), p.term, p.plan, state)
			most = max(most, cost)
		}
		got := impl.DepthOf(many, p.term, p.plan)
		if got != most || got != p.way.depth() || (got == 0) != (len(p.plan) == 0) {
			t.Fatal(p.term, p.plan, got, most)
		}
	})
}

// onesOf are so many tests of cost 1.
func onesOf(many int) []impl.Test {
	return slices.Repeat([]impl.Test{{Cost: 1, Chance: 3}}, many)
}

func TestDepthsOfSomePlans(t *testing.T) {
	for _, depth := range []struct {
		many  int
		signs string
		rows  choiceRows
		want  int
	}{
		{1, "aa!|", nil, 0}, {5, "ee!&", nil, 0}, {1, "a", choiceRows{{0, -1, -1}}, 1}, {2, "b", choiceRows{{0, 1, 2}, {1, -1, -1}, {1, -1, -1}}, 2},
		{3, "ab|c!&", choiceRows{{2, 1, -1}, {0, 2, -1}, {1, -1, -1}}, 3}, {3, "ab&a!c&|", choiceRows{{0, 2, 1}, {1, -1, -1}, {2, -1, -1}}, 2},
		// The longest way is not the one to the last choice.
		{3, "ab|c!&", choiceRows{{0, 2, 1}, {2, -1, -1}, {1, -1, 3}, {2, -1, -1}}, 3}, {3, "ab|c!&", choiceRows{{0, 1, 3}, {1, -1, 2}, {2, -1, -1}, {2, -1, -1}}, 3}, {3, "abc&&", choiceRows{{0, -1, 1}, {1, -1, 2}, {2, -1, -1}}, 3},
	} {
		if got := impl.DepthOf(depth.many, marksOf(depth.signs), choicesOf(depth.rows)); got != depth.want {
			t.Fatal(depth, got)
		}
	}
}

func TestDepthOfOthers(t *testing.T) {
	eachNoPlan(func(many int, term []impl.Mark, plan []impl.Choice) {
		if got := impl.DepthOf(many, term, plan); got != -1 {
			t.Fatal(many, term, plan, got)
		}
	})
}

// Promise 45.

func TestAveragesAreSumsOverChoices(t *testing.T) {
	eachPlanned(func(p planned) {
		sum := 0
		for place, choice := range p.plan {
			weight := impl.ChoiceWeight(p.tests, p.term, p.plan, place)
			if all := power(6, len(p.tests)); place == 0 && weight != all || weight < 1 || weight > all {
				t.Fatal(p.tests, p.term, p.plan, place, weight)
			}
			sum += weight * p.tests[choice.Ask].Cost
		}
		if average := impl.AverageBy(p.tests, p.term, p.plan); sum != average {
			t.Fatal(p.tests, p.term, p.plan, sum, average)
		}
	})
}

// placesBy lists the places of the choices to which a plan comes in a state.
func placesBy(plan []impl.Choice, state int) []int {
	if len(plan) == 0 {
		return nil
	}
	var places []int
	for place := 0; place != -1; {
		places = append(places, place)
		choice := plan[place]
		place = choice.No
		if saysYes(state, choice.Ask) {
			place = choice.Yes
		}
	}
	return places
}

func TestChoicesWeighWhatTheStatesWeighThatComeToThem(t *testing.T) {
	eachPlanned(func(p planned) {
		weights := make([]int, len(p.plan))
		for state := range power(2, len(p.tests)) {
			for _, place := range placesBy(p.plan, state) {
				weights[place] += impl.WeightOf(p.tests, state)
			}
		}
		for place, want := range weights {
			if got := impl.ChoiceWeight(p.tests, p.term, p.plan, place); got != want {
				t.Fatal(p.tests, p.term, p.plan, place, got, want)
			}
		}
	})
}

func TestSomeChoiceWeights(t *testing.T) {
	tests := []impl.Test{{Cost: 2, Chance: 3}, {Cost: 5, Chance: 1}, {Cost: 1, Chance: 2}}
	for _, weighed := range []struct {
		signs string
		rows  choiceRows
		want  []int
	}{
		{"ab|c!&", choiceRows{{2, 1, -1}, {0, 2, -1}, {1, -1, -1}}, []int{216, 144, 72}}, {"ab|c!&", choiceRows{{1, 2, 1}, {2, -1, -1}, {0, -1, 3}, {2, -1, -1}}, []int{216, 36, 180, 90}},
		{"ab|c!&", choiceRows{{2, 1, -1}, {1, 2, -1}, {0, -1, -1}}, []int{216, 144, 120}}, {"b", choiceRows{{1, -1, -1}}, []int{216}}, {"bb!|", nil, nil},
	} {
		for place, want := range append(weighed.want, -1) {
			if got := impl.ChoiceWeight(tests, marksOf(weighed.signs), choicesOf(weighed.rows), place); got != want {
				t.Fatal(weighed, place, got)
			}
		}
	}
}

func TestThereAreNoFurtherChoices(t *testing.T) {
	turn := 0
	eachPlanned(func(p planned) {
		turn++
		if turn%10 != 0 && len(p.plan) > 0 {
			return
		}
		for _, place := range append(farNumbers(), len(p.plan), len(p.plan)+1, 31) {
			if got := impl.ChoiceWeight(p.tests, p.term, p.plan, place); got != -1 {
				t.Fatal(p.tests, p.term, p.plan, place, got)
			}
		}
	})
}

func TestChoiceWeightOfOthers(t *testing.T) {
	eachNoPlanned(func(tests []impl.Test, term []impl.Mark, plan []impl.Choice) {
		for place := -1; place <= len(plan); place++ {
			if got := impl.ChoiceWeight(tests, term, plan, place); got != -1 {
				t.Fatal(tests, term, plan, place, got)
			}
		}
	})
}

// Promise 46.

func TestTheWorstIsBetweenTheAverageAndAllCosts(t *testing.T) {
	eachPlanned(func(p planned) {
		got := impl.WorstBy(p.tests, p.term, p.plan)
		if got > impl.CostOf(p.tests) || got*power(6, len(p.tests)) < impl.AverageBy(p.tests, p.term, p.plan) {
			t.Fatal(p.tests, p.term, p.plan, got)
		}
		most := 0
		for state := range power(2, len(p.tests)) {
			cost, _, _ := impl.CostBy(p.tests, p.term, p.plan, state)
			if cost != p.way.costBy(p.tests, state) {
				t.Fatal(p.tests, p.term, p.plan, state, cost)
			}
			most = max(most, cost)
		}
		if got != most {
			t.Fatal("no state costs just that", p.tests, p.term, p.plan, got, most)
		}
	})
}

func TestTheWorstOfSomePlans(t *testing.T) {
	tests := []impl.Test{{Cost: 2, Chance: 3}, {Cost: 5, Chance: 1}, {Cost: 1, Chance: 2}}
	for _, worst := range []struct {
		signs string
		rows  choiceRows
		want  int
	}{
		{"ab|c!&", choiceRows{{2, 1, -1}, {0, 2, -1}, {1, -1, -1}}, 8}, {"ab&a!c&|", choiceRows{{0, 2, 1}, {1, -1, -1}, {2, -1, -1}}, 7}, {"b", choiceRows{{1, -1, -1}}, 5}, {"bb!|", nil, 0},
		// The dearest way is neither the longest one nor the likeliest one.
		{"cab&b!&|", choiceRows{{2, -1, -1}}, 1}, {"ac!b&|", choiceRows{{0, 1, -1}, {2, 2, -1}, {1, -1, -1}}, 8}, {"ba&b!c&|", choiceRows{{1, 1, 2}, {2, -1, -1}, {0, -1, -1}}, 7},
	} {
		if got := impl.WorstBy(tests, marksOf(worst.signs), choicesOf(worst.rows)); got != worst.want {
			t.Fatal(worst, got)
		}
	}
}

func TestWorstByOfOthers(t *testing.T) {
	eachNoPlanned(func(tests []impl.Test, term []impl.Mark, plan []impl.Choice) {
		if got := impl.WorstBy(tests, term, plan); got != -1 {
			t.Fatal(tests, term, plan, got)
		}
	})
}

// Promise 47.

func TestTermsThatReadEachTestOnceLeaveNothingOut(t *testing.T) {
	often := 0
	eachSomeTerm(func(many int, term []impl.Mark) {
		if !impl.OnceOk(many, term) {
			return
		}
		often++
		if got, want := impl.LeastDepth(many, term), bits.OnesCount(uint(impl.LettersOf(many, term))); got != want {
			t.Fatal(many, term, got, want)
		}
	})
	if often < 100 {
		t.Fatal("too few terms", often)
	}
}

func TestLeastDepthIsThatOfAllWays(t *testing.T) {
	eachSomeTerm(func(many int, term []impl.Mark) {
		got := impl.LeastDepth(many, term)
		if want := leastDepthIn(truthOf(many, term), nothingKnown(many)); got != want {
			t.Fatal(many, term, got, want)
		}
		if other := impl.LeastDepth(many, impl.DualTerm(many, term)); other != got {
			t.Fatal("of the dual term", many, term, got, other)
		}
	})
}

func TestNoLeastProofHasMoreTestsThanTheLeastDepth(t *testing.T) {
	eachSomeTerm(func(many int, term []impl.Mark) {
		depth := impl.LeastDepth(many, term)
		for state := range power(2, many) {
			fewest := many
			for _, proof := range impl.LeastProofs(many, term, state) {
				fewest = min(fewest, bits.OnesCount(uint(proof)))
			}
			if fewest > depth {
				t.Fatal(many, term, state, fewest, depth)
			}
		}
	})
}

func TestNoPlanHasLessThanTheLeastDepth(t *testing.T) {
	eachPlanned(func(p planned) {
		many := len(p.tests)
		if depth, least := impl.DepthOf(many, p.term, p.plan), impl.LeastDepth(many, p.term); depth < least || least < 0 {
			t.Fatal(p.term, p.plan, depth, least)
		}
	})
}

func TestLeastDepthsOfSomeTerms(t *testing.T) {
	for _, depth := range []struct {
		many  int
		signs string
		want  int
	}{
		{1, "a", 1}, {1, "aa!|", 0}, {5, "ee!&", 0}, {5, "e!", 1}, {5, "abcdee!&&&&&!", 0}, {2, "aa!&b|", 1}, {2, "ab|a&", 1},
		{3, "ab|c!&", 3}, {4, "ab|c!&", 3}, {3, "ab&a!c&|", 2}, {3, "ab&ab|c&|", 3}, {5, "cd&c!e&|", 2}, {5, "abcde&&&&", 5}, {5, "abcde||||", 5}, {4, "ab&cd&|", 4},
	} {
		if got := impl.LeastDepth(depth.many, marksOf(depth.signs)); got != depth.want {
			t.Fatal(depth, got)
		}
	}
}

func TestLeastDepthOfOthers(t *testing.T) {
	eachNoTerm(func(many int, term []impl.Mark) {
		if got := impl.LeastDepth(many, term); got != -1 {
			t.Fatal(many, term, got)
		}
	})
}

// Promise 48.

// dearer are tests with more for the cost of one of them.
func dearer(tests []impl.Test, at, more int) []impl.Test {
	tests = slices.Clone(tests)
	tests[at].Cost += more
	return tests
}

func TestADearerTestCostsNoLessAndEverLessSo(t *testing.T) {
	eachTested(func(tests []impl.Test, term []impl.Mark) {
		whole := power(6, len(tests))
		for at := range tests {
			grown := whole
			before := impl.BestAverage(tests, term)
			for more := 1; tests[at].Cost+more <= 9; more++ {
				average := impl.BestAverage(dearer(tests, at, more), term)
				if average < before || average-before > grown {
					t.Fatal(tests, term, at, more, average, before, grown)
				}
				grown, before = average-before, average
			}
			if impl.BestAverage(dearer(tests, at, 10-tests[at].Cost), term) != -1 {
				t.Fatal("dearer than may be", tests, at)
			}
		}
	})
}

func TestATestThatIsAlwaysAskedCostsAllOfItsCost(t *testing.T) {
	eachTests(func(tests []impl.Test) {
		for at, test := range tests {
			average := impl.BestAverage(tests, marksOf("abcde"[at:at+1]))
			if average != test.Cost*power(6, len(tests)) {
				t.Fatal(tests, at, average)
			}
		}
	})
}

// Promise 49.

func TestTestsThatNeverMatterCostNothing(t *testing.T) {
	eachTested(func(tests []impl.Test, term []impl.Mark) {
		idle := impl.IdleTests(len(tests), term)
		least := impl.BestAverage(tests, term)
		for _, more := range []int{1, 4, 8} {
			others := slices.Clone(tests)
			for at := range others {
				if saysYes(idle, at) {
					others[at].Cost = 1 + (others[at].Cost-1+more)%9
				}
			}
			plan, ok := impl.BestPlan(others, term)
			if got := impl.BestAverage(others, term); !ok || got != least || impl.AverageBy(tests, term, plan) != least {
				t.Fatal(tests, others, term, got, least, plan)
			}
		}
	})
}

// Promise 50.

func TestEachOrderCostsAtLeastWhatTheBestPlanDoes(t *testing.T) {
	eachOrdered(func(tests []impl.Test, term []impl.Mark, order []int) {
		least := impl.BestAverage(tests, term)
		for _, order := range [][]int{order, reversed(order)} {
			if average := impl.AverageIn(tests, term, order); average < least {
				t.Fatal(tests, term, order, average, least)
			}
		}
	})
}

func TestSomePlansAreBetterThanEachOrder(t *testing.T) {
	better := 0
	eachTested(func(tests []impl.Test, term []impl.Mark) {
		if _, least := impl.BestOrder(tests, term); impl.BestAverage(tests, term) < least {
			better++
		}
	})
	if better < 30 {
		t.Fatal(better)
	}
}

// Plans without choices, of what is forced from the first on.

func TestNothingIsPlannedOfWhatIsAlwaysSo(t *testing.T) {
	for many := 1; many <= 5; many++ {
		for turn, term := range alwaysSo(many) {
			tests := turnedTests(many, turn)
			for _, plan := range [][]impl.Choice{nil, {}} {
				if !impl.PlanOk(many, term, plan) || impl.AverageBy(tests, term, plan) != 0 || impl.DepthOf(many, term, plan) != 0 || impl.WorstBy(tests, term, plan) != 0 || impl.ChoiceWeight(tests, term, plan, 0) != -1 {
					t.Fatal(many, term, plan)
				}
				for state := range power(2, many) {
					if cost, some, ok := impl.CostBy(tests, term, plan, state); cost != 0 || some != 0 || !ok {
						t.Fatal(many, term, plan, state, cost, some, ok)
					}
				}
			}
			best, bestOk := impl.BestPlan(tests, term)
			ordered, orderedOk := impl.OrderPlan(many, term, ascending(many))
			if !bestOk || !orderedOk || len(best) != 0 || len(ordered) != 0 || impl.BestAverage(tests, term) != 0 || impl.LeastDepth(many, term) != 0 {
				t.Fatal(many, term, best, bestOk, ordered, orderedOk)
			}
		}
	}
}

// General rules: results are new memory, arguments are never written to, and no call leaves anything behind for the next one.

func TestResultsOfPlansAreNewMemory(t *testing.T) {
	tests, term, order := turnedTests(4, 3), marksOf("ab!&cd&|"), []int{3, 1, 0, 2}
	for _, result := range []func() []impl.Choice{
		func() []impl.Choice { best, _ := impl.BestPlan(tests, term); return best },
		func() []impl.Choice { plan, _ := impl.OrderPlan(4, term, order); return plan },
	} {
		first, second := result(), result()
		before := slices.Clone(second)
		first = first[:cap(first)]
		for i := range first {
			first[i] = impl.Choice{Ask: 77, No: 77, Yes: 77}
		}
		if len(before) < 4 || !slices.Equal(second, before) || !slices.Equal(result(), before) {
			t.Fatal(second, before)
		}
	}
}

func TestArgumentsOfPlansAreNotWrittenTo(t *testing.T) {
	eachPlanned(func(p planned) {
		order := append(reversed(ascending(len(p.tests))), 7)
		before := slices.Clone(order)
		checkPlannedStays(t, p, func(tests []impl.Test, term []impl.Mark, plan []impl.Choice) []int {
			return plansFor(tests, term, plan, order[:len(tests)])
		})
		if !slices.Equal(order, before) {
			t.Fatal(order, before)
		}
	})
}

// plansFor calls all functions of the chapter and returns their numbers.
func plansFor(tests []impl.Test, term []impl.Mark, plan []impl.Choice, order []int) []int {
	many := len(tests)
	answers := []int{impl.AverageBy(tests, term, plan), impl.BestAverage(tests, term), impl.DepthOf(many, term, plan), impl.ChoiceWeight(tests, term, plan, 0), impl.WorstBy(tests, term, plan), impl.LeastDepth(many, term)}
	best, _ := impl.BestPlan(tests, term)
	ordered, _ := impl.OrderPlan(many, term, order)
	for _, choice := range slices.Concat(best, ordered) {
		answers = append(answers, choice.Ask, choice.No, choice.Yes)
	}
	for state := range power(2, many) {
		cost, some, _ := impl.CostBy(tests, term, plan, state)
		answers = append(answers, cost, some)
	}
	if impl.PlanOk(many, term, plan) {
		answers = append(answers, -2)
	}
	return answers
}
