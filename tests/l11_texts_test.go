package tests

import (
	"slices"
	"strings"
	"testing"

	"loop.example/checksinorder/impl"
)

// Promise 76.

// writtenPlans are plans for terms, as their marks stand, whose choices are in the order of the text, and their texts.
var writtenPlans = []struct {
	many  int
	signs string
	rows  choiceRows
	text  string
}{
	// No choices, of what is always so and of what never is.
	{1, "aa!|", nil, "1"}, {1, "aa!&", choiceRows{}, "0"}, {5, "ee!|", nil, "1"}, {5, "ee!&", nil, "0"}, {5, "abcdee!|||||", nil, "1"}, {2, "ab&ab&!|!!!!!", nil, "0"},
	// One choice.
	{1, "a", choiceRows{{0, -1, -1}}, "a(0,1)"}, {1, "a!", choiceRows{{0, -1, -1}}, "a(1,0)"}, {5, "a", choiceRows{{0, -1, -1}}, "a(0,1)"}, {5, "e", choiceRows{{4, -1, -1}}, "e(0,1)"}, {5, "e!", choiceRows{{4, -1, -1}}, "e(1,0)"}, {2, "aa!&b|", choiceRows{{1, -1, -1}}, "b(0,1)"},
	// Two, behind a no or behind a yes.
	{2, "ab&", choiceRows{{0, -1, 1}, {1, -1, -1}}, "a(0,b(0,1))"}, {2, "ab&", choiceRows{{1, -1, 1}, {0, -1, -1}}, "b(0,a(0,1))"}, {2, "ab|", choiceRows{{0, 1, -1}, {1, -1, -1}}, "a(b(0,1),1)"}, {2, "ab&!", choiceRows{{0, -1, 1}, {1, -1, -1}}, "a(1,b(1,0))"},
	// The same test at several places.
	{2, "b", choiceRows{{0, 1, 2}, {1, -1, -1}, {1, -1, -1}}, "a(b(0,1),b(0,1))"}, {2, "ab!&a!b&|", choiceRows{{1, 1, 2}, {0, -1, -1}, {0, -1, -1}}, "b(a(0,1),a(1,0))"}, {3, "ab|c!&", choiceRows{{0, 1, 3}, {1, -1, 2}, {2, -1, -1}, {2, -1, -1}}, "a(b(0,c(1,0)),c(1,0))"}, {3, "ab|c!&", choiceRows{{0, 1, 3}, {2, 2, -1}, {1, -1, -1}, {1, 4, 5}, {2, -1, -1}, {2, -1, -1}}, "a(c(b(0,1),0),b(c(1,0),c(1,0)))"},
	// Other tests by other answers, and all of five.
	{3, "ab|c!&", choiceRows{{2, 1, -1}, {0, 2, -1}, {1, -1, -1}}, "c(a(b(0,1),1),0)"}, {3, "ab&a!c&|", choiceRows{{0, 1, 2}, {2, -1, -1}, {1, -1, -1}}, "a(c(0,1),b(0,1))"},
	{5, "ab&c&d&e&", choiceRows{{4, -1, 1}, {3, -1, 2}, {2, -1, 3}, {1, -1, 4}, {0, -1, -1}}, "e(0,d(0,c(0,b(0,a(0,1)))))"}, {5, "ab|c|d|e|", choiceRows{{0, 1, -1}, {1, 2, -1}, {2, 3, -1}, {3, 4, -1}, {4, -1, -1}}, "a(b(c(d(e(0,1),1),1),1),1)"},
}

func TestTextsOfSomePlans(t *testing.T) {
	for _, written := range writtenPlans {
		term, plan := marksOf(written.signs), choicesOf(written.rows)
		if got := impl.PlanText(written.many, term, plan); got != written.text {
			t.Fatal(written, got)
		}
		if got, ok := impl.ReadPlan(written.many, term, written.text); !ok || !slices.Equal(got, plan) {
			t.Fatal(written, got, ok)
		}
	}
}

func TestTextsDoNotTellInWhichOrderChoicesStand(t *testing.T) {
	term := marksOf("ab|c!&")
	for _, list := range []choiceRows{
		{{0, 1, 3}, {1, -1, 2}, {2, -1, -1}, {2, -1, -1}},
		{{0, 1, 2}, {1, -1, 3}, {2, -1, -1}, {2, -1, -1}},
		{{0, 2, 1}, {2, -1, -1}, {1, -1, 3}, {2, -1, -1}},
	} {
		if got := impl.PlanText(3, term, choicesOf(list)); got != "a(b(0,c(1,0)),c(1,0))" {
			t.Fatal(list, got)
		}
	}
}

func TestTextsOfManyPlans(t *testing.T) {
	eachPlanned(func(p planned) {
		if got, want := impl.PlanText(len(p.tests), p.term, p.plan), p.text(); got != want {
			t.Fatal(p.term, p.plan, got, want)
		}
	})
}

func TestTextsOfPlansAreRead(t *testing.T) {
	eachPlanned(func(p planned) {
		many := len(p.tests)
		text := impl.PlanText(many, p.term, p.plan)
		got, ok := impl.ReadPlan(many, p.term, text)
		if want := planOf(noFirst(p.way)); !ok || !slices.Equal(got, want) {
			t.Fatal(p.term, p.plan, text, got, ok, want)
		}
		if len(got) != len(p.plan) || impl.PlanText(many, p.term, got) != text || impl.DepthOf(many, p.term, got) != impl.DepthOf(many, p.term, p.plan) {
			t.Fatal("not the same", p.term, p.plan, text, got)
		}
	})
}

func TestBestPlansAndOrdersAreReadAsTheyStand(t *testing.T) {
	turn := 0
	eachTested(func(tests []impl.Test, term []impl.Mark) {
		many := len(tests)
		turn++
		best, _ := impl.BestPlan(tests, term)
		ordered, _ := impl.OrderPlan(many, term, ordersOf(many)[turn%len(ordersOf(many))])
		for _, plan := range [][]impl.Choice{best, ordered} {
			if got, ok := impl.ReadPlan(many, term, impl.PlanText(many, term, plan)); !ok || !slices.Equal(got, plan) {
				t.Fatal(tests, term, plan, got, ok)
			}
		}
	})
}

func TestAllPlansOfATermHaveOtherTexts(t *testing.T) {
	turn := 0
	eachSomeTerm(func(many int, term []impl.Mark) {
		turn++
		if many == 5 || many == 4 && turn%7 != 0 {
			return
		}
		truth, texts := truthOf(many, term), map[string]bool{}
		for _, w := range waysIn(truth, nothingKnown(many)) {
			plan := planOf(noFirst(w))
			text := impl.PlanText(many, term, plan)
			if got, ok := impl.ReadPlan(many, term, text); texts[text] || !ok || !slices.Equal(got, plan) {
				t.Fatal(many, term, plan, text, got, ok)
			}
			texts[text] = true
		}
	})
}

// longWays are ways to ask five tests for a term that only the last one of them turns, which is asked behind all others: of as many choices as there may be.
func longWays(signs string) []*way {
	truth, last := truthOf(5, marksOf(signs)), strings.IndexByte("abcde", signs[0])
	var ways []*way
	for turn := range 9 {
		ways = append(ways, wayBy(truth, nothingKnown(5), func(known []int) int {
			others := with(known, last, 0)
			if !slices.Contains(others, -1) {
				return last
			}
			return drawn(turn)(others)
		}))
	}
	return ways
}

func TestTextsOfMaxChoicesAreRead(t *testing.T) {
	for _, signs := range []string{"e", "e!", "a", "c!", "bb&"} {
		term := marksOf(signs)
		for _, w := range longWays(signs) {
			want := w.text(truthOf(5, term), nothingKnown(5))
			for _, layout := range layouts {
				plan := planOf(layout(w))
				if got := impl.PlanText(5, term, plan); len(plan) != impl.MaxChoices || len(got) != 4*31+32 || got != want {
					t.Fatal(signs, plan, got, want)
				}
			}
			if got, ok := impl.ReadPlan(5, term, want); !ok || !slices.Equal(got, planOf(noFirst(w))) {
				t.Fatal(signs, want, got, ok)
			}
		}
	}
}

func TestTextsOfWhatIsAlwaysSoAreValues(t *testing.T) {
	for many := 1; many <= 5; many++ {
		for _, term := range alwaysSo(many) {
			values := []string{"0", "1"}
			if trueIn(many, term, 0) {
				values = []string{"1", "0"}
			}
			for _, plan := range [][]impl.Choice{nil, {}} {
				if got := impl.PlanText(many, term, plan); got != values[0] {
					t.Fatal(many, term, got)
				}
			}
			if got, ok := impl.ReadPlan(many, term, values[0]); len(got) != 0 || !ok {
				t.Fatal(many, term, got, ok)
			}
			for _, text := range []string{"", values[1], "00", "01", "10", "11", "2", "-1", " 1", "a", "a(0,0)", "a(1,1)", "a(0,1)", "(0)", "(1)", "0,1", "1)", "(1"} {
				if got, ok := impl.ReadPlan(many, term, text); len(got) != 0 || ok {
					t.Fatal(many, term, text, got, ok)
				}
			}
		}
	}
}

func TestPlanTextOfOthers(t *testing.T) {
	eachNoPlan(func(many int, term []impl.Mark, plan []impl.Choice) {
		if got := impl.PlanText(many, term, plan); got != "" {
			t.Fatal(many, term, plan, got)
		}
	})
}

// Promise 77.

// fewPlans are terms, as their marks stand, with few plans.
var fewPlans = []struct {
	many  int
	signs string
}{
	{1, "a"}, {1, "a!"}, {1, "aa!|"}, {1, "aa!&"}, {2, "a"}, {2, "b!"}, {2, "bb!&"}, {2, "bb!|"}, {2, "ab&"}, {2, "ab|"}, {2, "ab!&"}, {2, "ab!&a!b&|"}, {2, "ab!&a!b&|!"}, {2, "aa!&b|"},
	{3, "c"}, {3, "ac&"}, {3, "ab&c&"}, {3, "ab|c!&"}, {3, "ab&a!c&|"},
}

func TestJustTextsOfPlansAreRead(t *testing.T) {
	for _, few := range fewPlans {
		if few.many == 3 {
			continue
		}
		term := marksOf(few.signs)
		ways := waysByText(few.many, term)
		eachText("ab01(,)", 6, func(text string) {
			w, want := ways[text]
			if got, ok := impl.ReadPlan(few.many, term, text); ok != want || !slices.Equal(got, planOf(noFirst(w))) {
				t.Fatal(few, text, got, ok)
			}
		})
	}
}

func TestJustTreesThatArePlansAreRead(t *testing.T) {
	trees := [4][]string{}
	for many := 1; many <= 3; many++ {
		for choices := range 4 {
			trees[many] = append(trees[many], treeTexts(many, choices)...)
		}
	}
	trees[3] = append(trees[3], treeTexts(3, 4)...)
	for _, few := range fewPlans {
		term := marksOf(few.signs)
		ways := waysByText(few.many, term)
		for _, text := range trees[few.many] {
			w, want := ways[text]
			if got, ok := impl.ReadPlan(few.many, term, text); ok != want || !slices.Equal(got, planOf(noFirst(w))) {
				t.Fatal(few, text, got, ok)
			}
		}
	}
}

// eachFewPlanned calls visit for fewer plans than eachPlanned does, for what is to be tried with many texts: those of edgeTerms, and each 37th of the others.
func eachFewPlanned(visit func(p planned)) {
	turn := 0
	eachPlanned(func(p planned) {
		turn++
		if turn <= 300 || turn%37 == 0 {
			visit(p)
		}
	})
}

func TestReadPlansAreCanonical(t *testing.T) {
	eachFewPlanned(func(p planned) {
		many, text := len(p.tests), p.text()
		for _, near := range textsNear(text, "abe01(,)2 A") {
			got, ok := impl.ReadPlan(many, p.term, near)
			if ok && (!impl.PlanOk(many, p.term, got) || impl.PlanText(many, p.term, got) != near) || !ok && len(got) != 0 {
				t.Fatal(p.term, text, near, got, ok)
			}
			// Each choice has five bytes more.
			if ok && len(near) != len(text) {
				t.Fatal("one byte more, or one less", p.term, text, near, got)
			}
		}
	})
}

func TestTextsOfPlansThatAreCutShortOrGoOnAreRefused(t *testing.T) {
	eachFewPlanned(func(p planned) {
		text := p.text()
		refused := []string{text + text, text + "," + text, text + " " + text, "(" + text + ")", text + "()", text + "(0,1)", text + "))"}
		for end := range text {
			refused = append(refused, text[:end], text[end+1:])
		}
		for sign := range 256 {
			more := string([]byte{byte(sign)})
			refused = append(refused, text+more, more+text)
		}
		for _, text := range refused {
			if got, ok := impl.ReadPlan(len(p.tests), p.term, text); len(got) != 0 || ok {
				t.Fatal(p.term, text, got, ok)
			}
		}
	})
}

func TestTextsWithAChoiceOrAValueInTheWrongPlaceAreRefused(t *testing.T) {
	eachFewPlanned(func(p planned) {
		eachWrongTree(p.text(), func(wrong string) {
			if got, ok := impl.ReadPlan(len(p.tests), p.term, wrong); len(got) != 0 || ok {
				t.Fatal(p.term, p.text(), wrong, got, ok)
			}
		})
	})
}

func TestTextsOfNoPlansAreRefused(t *testing.T) {
	for _, refused := range []struct {
		many  int
		signs string
		texts []string
	}{
		{1, "a", []string{"", " ", "0", "1", "01", "a", "(", ")", ",", "(,)", "()", "a()", "a(", "a(0", "a(0,", "a(0,1", "a0,1)", "a(01)", "a(,1)", "a(0,)", "(0,1)", "a(0,1))", "a((0,1)", "a(0,,1)", "a(0,1,)", "a(0,1,1)", "a(0,1),", "a(0,1)0", "a(0,1)a"}},
		{1, "a", []string{"A(0,1)", "b(0,1)", "f(0,1)", "`(0,1)", "0(0,1)", "1(0,1)", "\x00(0,1)", "\xe1(0,1)", "aa(0,1)", "!a(0,1)", "a (0,1)", "a( 0,1)", "a(0 ,1)", "a(0, 1)", "a(0,1 )", " a(0,1)", "a(0,1) ", "a(0,1)\n", "a[0,1]", "a{0,1}", "a(0;1)", "a(0.1)", "a(0|1)", "a(0,1]", "a\uff080,1)"}},
		{1, "a", []string{"a(1,0)", "a(0,0)", "a(1,1)", "a(00,1)", "a(0,01)", "a(0,11)", "a(0,2)", "a(2,1)", "a(-1,1)", "a(-0,1)", "a(0,+1)", "a(0,9)", "a(0,a)", "a(0,O)", "a(0,l)", "a(?,1)", "a(a(0,1),1)", "a(0,a(0,1))", "a(0,a(1,1))", "a(a(0,0),1)"}},
		// A test that is asked twice on one way: at once, or later.
		{2, "ab&", []string{"a(0,a(0,1))", "a(0,a(0,b(0,1)))", "a(0,b(0,b(0,1)))", "a(0,b(0,a(0,1)))", "a(a(0,0),b(0,1))"}}, {2, "b", []string{"a(a(b(0,1),b(0,1)),b(0,1))", "a(b(0,1),a(0,1))", "a(b(0,1),a(b(0,1),b(0,1)))", "b(0,b(0,1))"}}, {3, "ab&c&", []string{"a(0,b(0,a(0,c(0,1))))", "a(0,b(0,a(0,1)))", "a(0,b(0,c(0,a(0,1))))"}},
		// A value where nothing is forced.
		{2, "ab&", []string{"0", "1", "a(0,0)", "a(0,1)", "a(b(0,1),1)", "b(0,1)", "b(0,0)"}}, {2, "ab|", []string{"0", "1", "a(1,1)", "a(0,1)", "a(0,b(0,1))", "b(0,1)"}}, {3, "ab|c!&", []string{"c(0,0)", "c(1,0)", "c(a(0,1),0)", "a(b(0,1),c(1,0))", "a(b(0,c(1,0)),1)", "a(0,c(1,0))"}},
		// The other value than the forced one.
		{2, "ab&", []string{"a(1,b(0,1))", "a(0,b(1,1))", "a(0,b(0,0))", "a(0,b(1,0))", "a(1,b(1,0))"}}, {3, "ab|c!&", []string{"c(a(b(0,1),1),1)", "c(a(b(1,1),1),0)", "c(a(b(0,0),1),0)", "c(a(b(0,1),0),0)", "c(a(b(1,0),0),1)"}},
		// A choice where something is forced already.
		{2, "ab&", []string{"a(b(0,0),b(0,1))", "b(a(0,0),a(0,1))"}}, {2, "ab|", []string{"a(b(0,1),b(1,1))"}}, {2, "b", []string{"b(a(0,0),1)", "b(0,a(1,1))", "b(a(0,0),a(1,1))"}}, {3, "ab|c!&", []string{"c(a(b(0,1),1),a(0,0))", "c(a(b(0,1),b(1,1)),0)"}}, {2, "aa!|", []string{"b(1,1)", "a(b(1,1),1)"}},
		// What follows a no and what follows a yes the other way round.
		{2, "ab&", []string{"a(b(0,1),0)"}}, {3, "ab&a!c&|", []string{"a(b(0,1),c(0,1))"}}, {3, "ab|c!&", []string{"c(0,a(1,b(1,0)))"}},
	} {
		for _, text := range refused.texts {
			if got, ok := impl.ReadPlan(refused.many, marksOf(refused.signs), text); len(got) != 0 || ok {
				t.Fatal(refused, text, got, ok)
			}
		}
	}
}

func TestTextsOfPlansWithOtherBytesAreRefused(t *testing.T) {
	for byteOf := range 256 {
		sign := string([]byte{byte(byteOf)})
		at := byteOf - 'a'
		for many := 1; many <= 5; many++ {
			for _, written := range []struct {
				signs, text string
				want        bool
			}{
				{"a", sign + "(0,1)", at == 0}, {"a", sign + "(a(0,1),a(0,1))", at >= 1 && at < many},
				{"a", "a" + sign + "0,1)", sign == "("}, {"a", "a(" + sign + ",1)", sign == "0"}, {"a", "a(0" + sign + "1)", sign == ","}, {"a", "a(0," + sign + ")", sign == "1"}, {"a", "a(0,1" + sign, sign == ")"},
				{"a!", sign + "(1,0)", at == 0}, {"a!", "a(" + sign + ",0)", sign == "1"}, {"aa!|", sign, sign == "1"}, {"aa!&", sign, sign == "0"},
			} {
				if _, ok := impl.ReadPlan(many, marksOf(written.signs), written.text); ok != written.want {
					t.Fatal(many, written, ok)
				}
			}
		}
	}
}

func TestTextsOfPlansForOtherTermsAreRefused(t *testing.T) {
	eachPlanned(func(p planned) {
		many, text := len(p.tests), p.text()
		if not, fits := withNot(p.term); fits {
			if got, ok := impl.ReadPlan(many, not, text); len(got) != 0 || ok {
				t.Fatal(p.term, text, got, ok)
			}
		}
		for _, signs := range []string{"aa!|", "aa!&"} {
			got, ok := impl.ReadPlan(many, marksOf(signs), text)
			if want := impl.PlanText(many, marksOf(signs), nil) == text; len(got) != 0 || ok != want {
				t.Fatal(signs, text, got, ok)
			}
		}
	})
}

func TestTextsOfFourHundredBytesAndOfMoreAreRefused(t *testing.T) {
	for _, size := range []int{155, 157, 161, 396, 399, 400, 401, 402, 406, 1001, 1<<20 + 1} {
		half, fifth := size/2, size/5
		for _, text := range []string{
			strings.Repeat("0", size), strings.Repeat("1", size), strings.Repeat("a", size), strings.Repeat("(", size), strings.Repeat(")", size), strings.Repeat(",", size), strings.Repeat(" ", size), strings.Repeat("\x00", size), strings.Repeat("\xff", size),
			"e(0,1)" + strings.Repeat(" ", size-6), strings.Repeat(" ", size-6) + "e(0,1)", "e(0,1)" + strings.Repeat(")", size-6), "e" + strings.Repeat("(", size-5) + "0,1)", "e(" + strings.Repeat("0", size-5) + ",1)", "1" + strings.Repeat("0", size-1),
			strings.Repeat("a(", half), strings.Repeat("a(", half) + "0", strings.Repeat("a(0,", size/4), strings.Repeat("e(0,1)", size/6),
			strings.Repeat("a(", fifth) + "0" + strings.Repeat(",1)", fifth), strings.Repeat("a(0,", fifth) + "1" + strings.Repeat(")", fifth), strings.Repeat("e(0,", fifth) + "e(0,1)" + strings.Repeat(")", fifth),
		} {
			for _, signs := range []string{"e", "a", "aa!|", "aa!&"} {
				if got, ok := impl.ReadPlan(5, marksOf(signs), text); len(got) != 0 || ok {
					t.Fatal(size, text[:20], got, ok)
				}
			}
		}
	}
}

func TestReadPlanOfOthers(t *testing.T) {
	eachNoTerm(func(many int, term []impl.Mark) {
		for _, text := range []string{"", "0", "1", "a(0,1)", "a(1,0)", "a(0,b(0,1))", "f(0,1)"} {
			if got, ok := impl.ReadPlan(many, term, text); len(got) != 0 || ok {
				t.Fatal(many, term, text, got, ok)
			}
		}
	})
}

// Promise 78.

func TestSomeTurnedPlans(t *testing.T) {
	for _, plan := range []struct {
		many  int
		signs string
		rows  choiceRows
		want  choiceRows
	}{
		{1, "aa!|", nil, nil}, {5, "ee!&", choiceRows{}, nil}, {1, "a", choiceRows{{0, -1, -1}}, choiceRows{{0, -1, -1}}}, {5, "e!", choiceRows{{4, -1, -1}}, choiceRows{{4, -1, -1}}},
		{2, "ab&", choiceRows{{0, -1, 1}, {1, -1, -1}}, choiceRows{{0, 1, -1}, {1, -1, -1}}}, {2, "ab|", choiceRows{{1, 1, -1}, {0, -1, -1}}, choiceRows{{1, -1, 1}, {0, -1, -1}}},
		// The choices stay where they are, whatever the order of the text is.
		{2, "b", choiceRows{{0, 1, 2}, {1, -1, -1}, {1, -1, -1}}, choiceRows{{0, 2, 1}, {1, -1, -1}, {1, -1, -1}}}, {3, "ab&a!c&|", choiceRows{{0, 1, 2}, {2, -1, -1}, {1, -1, -1}}, choiceRows{{0, 2, 1}, {2, -1, -1}, {1, -1, -1}}},
		{3, "ab|c!&", choiceRows{{2, 1, -1}, {0, 2, -1}, {1, -1, -1}}, choiceRows{{2, -1, 1}, {0, -1, 2}, {1, -1, -1}}}, {3, "ab|c!&", choiceRows{{0, 1, 3}, {1, -1, 2}, {2, -1, -1}, {2, -1, -1}}, choiceRows{{0, 3, 1}, {1, 2, -1}, {2, -1, -1}, {2, -1, -1}}},
	} {
		if got, ok := impl.TurnedPlan(plan.many, marksOf(plan.signs), choicesOf(plan.rows)); !ok || !slices.Equal(got, choicesOf(plan.want)) {
			t.Fatal(plan, got, ok)
		}
	}
}

func TestTurnedPlansAreForTheDualTerm(t *testing.T) {
	eachPlanned(func(p planned) {
		many := len(p.tests)
		dual, others := impl.DualTerm(many, p.term), impl.OtherTests(p.tests)
		got, ok := impl.TurnedPlan(many, p.term, p.plan)
		if !ok || !slices.Equal(got, turned(p.plan)) || !impl.PlanOk(many, dual, got) {
			t.Fatal(p.term, p.plan, got, ok)
		}
		if average := impl.AverageBy(others, dual, got); average != impl.AverageBy(p.tests, p.term, p.plan) || average != p.way.averageBy(p.tests) {
			t.Fatal("costs more or less", p.tests, p.term, p.plan, got, average)
		}
		if again, ok := impl.TurnedPlan(many, dual, got); !ok || !slices.Equal(again, p.plan) {
			t.Fatal("turned again", p.term, p.plan, got, again, ok)
		}
	})
}

func TestTurnedPlansOfMaxChoices(t *testing.T) {
	for _, w := range longWays("e!") {
		for _, layout := range layouts {
			plan := planOf(layout(w))
			got, ok := impl.TurnedPlan(5, marksOf("e!"), plan)
			if !ok || len(got) != impl.MaxChoices || !slices.Equal(got, turned(plan)) {
				t.Fatal(plan, got, ok)
			}
		}
	}
}

func TestTurnedPlanOfOthers(t *testing.T) {
	eachNoPlan(func(many int, term []impl.Mark, plan []impl.Choice) {
		if got, ok := impl.TurnedPlan(many, term, plan); len(got) != 0 || ok {
			t.Fatal(many, term, plan, got, ok)
		}
	})
}

// Promise 79.

func TestStopsOfSomePlans(t *testing.T) {
	for _, written := range writtenPlans {
		term, plan := marksOf(written.signs), choicesOf(written.rows)
		for value, sign := range []string{"0", "1"} {
			if got := impl.StopsOf(written.many, term, plan, value); got != strings.Count(written.text, sign) {
				t.Fatal(written, value, got)
			}
		}
	}
}

func TestPlansStopOnceMoreOftenThanTheyAsk(t *testing.T) {
	eachPlanned(func(p planned) {
		many, sum := len(p.tests), 0
		for value := range 2 {
			got, want := impl.StopsOf(many, p.term, p.plan, value), p.way.stops(p.truth, nothingKnown(many), value)
			if got != want || (got > 0) != slices.Contains(p.truth, value == 1) {
				t.Fatal(p.term, p.plan, value, got, want)
			}
			sum += got
		}
		if sum != len(p.plan)+1 {
			t.Fatal(p.term, p.plan, sum)
		}
	})
}

func TestStopsOfMaxChoices(t *testing.T) {
	for _, w := range longWays("e") {
		for _, layout := range layouts {
			plan := planOf(layout(w))
			if no, yes := impl.StopsOf(5, marksOf("e"), plan, 0), impl.StopsOf(5, marksOf("e"), plan, 1); no != 16 || yes != 16 {
				t.Fatal(plan, no, yes)
			}
		}
	}
}

func TestPlansWithoutChoicesStopOnce(t *testing.T) {
	for many := 1; many <= 5; many++ {
		for _, term := range alwaysSo(many) {
			for value := range 2 {
				want := 0
				if trueIn(many, term, 0) == (value == 1) {
					want = 1
				}
				if got := impl.StopsOf(many, term, nil, value); got != want {
					t.Fatal(many, term, value, got)
				}
			}
		}
	}
}

func TestStopsOfOthers(t *testing.T) {
	eachNoPlan(func(many int, term []impl.Mark, plan []impl.Choice) {
		for value := range 2 {
			if got := impl.StopsOf(many, term, plan, value); got != -1 {
				t.Fatal(many, term, plan, value, got)
			}
		}
	})
	for _, written := range writtenPlans {
		for _, value := range append(farNumbers(), 2, 3, '0', '1') {
			if got := impl.StopsOf(written.many, marksOf(written.signs), choicesOf(written.rows), value); got != -1 {
				t.Fatal(written, value, got)
			}
		}
	}
}

// Promise 80.

func TestOfWhatIsNotSoThePlanStopsWithTheOtherValues(t *testing.T) {
	eachPlanned(func(p planned) {
		many := len(p.tests)
		not, fits := withNot(p.term)
		text, want := impl.PlanText(many, not, p.plan), ""
		if fits {
			want = otherValues(p.text())
		}
		if text != want {
			t.Fatal(p.term, p.plan, text, want)
		}
		for value := range 2 {
			want := -1
			if fits {
				want = impl.StopsOf(many, p.term, p.plan, 1-value)
			}
			if got := impl.StopsOf(many, not, p.plan, value); got != want {
				t.Fatal("stops", p.term, p.plan, value, got, want)
			}
		}
		if got, ok := impl.ReadPlan(many, not, otherValues(p.text())); ok != fits || ok && !slices.Equal(got, planOf(noFirst(p.way))) {
			t.Fatal("read", p.term, p.plan, got, ok)
		}
	})
}

func TestOfWhatIsNotSoTheTextsOfSomePlans(t *testing.T) {
	for _, written := range writtenPlans {
		not, fits := withNot(marksOf(written.signs))
		if !fits {
			continue
		}
		if got, want := impl.PlanText(written.many, not, choicesOf(written.rows)), otherValues(written.text); got != want {
			t.Fatal(written, got, want)
		}
	}
}

// General rules: results are new memory, arguments are never written to, and no call leaves anything behind for the next one.

func TestResultsOfPlansAsTextsAreNewMemory(t *testing.T) {
	eachPlanned(func(p planned) {
		many, text := len(p.tests), p.text()
		plan := append(slices.Clone(p.plan), impl.Choice{Ask: 7, No: 7, Yes: 7})
		planBefore := slices.Clone(plan)
		for _, result := range []func() []impl.Choice{
			func() []impl.Choice { read, _ := impl.ReadPlan(many, p.term, text); return read },
			func() []impl.Choice {
				turned, _ := impl.TurnedPlan(many, p.term, plan[:len(p.plan)])
				return turned
			},
		} {
			first, second := result(), result()
			before := slices.Clone(second)
			overwrite(first, impl.Choice{Ask: 77, No: 77, Yes: 77})
			if !slices.Equal(second, before) || !slices.Equal(result(), before) || !slices.Equal(plan, planBefore) {
				t.Fatal(p.term, second, before, plan)
			}
		}
	})
}

func TestArgumentsOfPlansAsTextsAreNotWrittenTo(t *testing.T) {
	eachPlanned(func(p planned) {
		checkPlannedStays(t, p, textsFor)
	})
}

// textsFor calls all functions of the chapter and returns their results as numbers.
func textsFor(tests []impl.Test, term []impl.Mark, plan []impl.Choice) []int {
	many := len(tests)
	answers := []int{impl.StopsOf(many, term, plan, 0), impl.StopsOf(many, term, plan, 1)}
	text := impl.PlanText(many, term, plan)
	read, _ := impl.ReadPlan(many, term, text)
	turned, _ := impl.TurnedPlan(many, term, plan)
	for _, choice := range slices.Concat(read, turned) {
		answers = append(answers, choice.Ask, choice.No, choice.Yes)
	}
	for _, sign := range []byte(text) {
		answers = append(answers, int(sign))
	}
	return answers
}
