package tests

import (
	"slices"
	"testing"

	"loop.example/checksinorder/impl"
)

// Promise 17.

// valuesOfTerms are terms, and their values in all states, from the state 0 on.
var valuesOfTerms = []struct {
	many          int
	signs, values string
}{
	{1, "a", "01"}, {1, "a!", "10"}, {1, "a!!", "01"}, {1, "aa!|", "11"}, {1, "aa!&", "00"},
	{2, "a", "0101"}, {2, "b", "0011"}, {2, "ab&", "0001"}, {2, "ab|", "0111"}, {2, "ab!&", "0100"}, {2, "a!b|", "1011"}, {2, "ab&!", "1110"}, {2, "ab|!", "1000"},
	{2, "ab!&a!b&|", "0110"}, {2, "aa!&b|", "0011"},
	{3, "c", "00001111"}, {3, "ab|c!&", "01110000"}, {3, "ab&c|", "00011111"}, {3, "ab&ab|c&|", "00010111"}, {3, "ab&a!c&|", "00011011"}, {3, "abc|!&", "01000000"},
	{4, "d", "0000000011111111"}, {4, "ab&cd&|", "0001000100011111"},
	{5, "e", "00000000000000001111111111111111"}, {5, "abcde&&&&", "00000000000000000000000000000001"}, {5, "abcde||||", "01111111111111111111111111111111"}, {5, "ad!&e|", "01010101000000001111111111111111"},
}

func TestValuesOfSomeTerms(t *testing.T) {
	for _, term := range valuesOfTerms {
		for state := range power(2, term.many) {
			want := term.values[state] == '1'
			if impl.ValueOf(term.many, marksOf(term.signs), state) != want {
				t.Fatal(term.signs, state, want)
			}
		}
	}
}

func TestValuesAreMadeOfThoseOfTheParts(t *testing.T) {
	eachTerm(func(many int, term []impl.Mark, _ string) {
		for state, want := range truthOf(many, term) {
			if impl.ValueOf(many, term, state) != want {
				t.Fatal(many, term, state, want)
			}
		}
	})
	for _, term := range edgeTerms {
		marks := marksOf(term.signs)
		if !impl.TermOk(term.many, marks) {
			t.Fatal("no term", term)
		}
		for state, want := range truthOf(term.many, marks) {
			if impl.ValueOf(term.many, marks, state) != want {
				t.Fatal(term, state, want)
			}
		}
	}
}

func TestOfOppositesTheDualHasTheOppositeValue(t *testing.T) {
	eachTerm(func(many int, term []impl.Mark, _ string) {
		all := power(2, many) - 1
		dual := impl.DualTerm(many, term)
		not, isTerm := withNot(term)
		for state := 0; state <= all; state++ {
			value := impl.ValueOf(many, term, state)
			if impl.ValueOf(many, dual, all-state) == value {
				t.Fatal("the dual", many, term, state)
			}
			if impl.ValueOf(many, not, state) != (isTerm && !value) {
				t.Fatal("not", many, term, state)
			}
		}
	})
}

func TestValueOfOthers(t *testing.T) {
	eachNoTerm(func(many int, term []impl.Mark) {
		for state := range 33 {
			if impl.ValueOf(many, term, state) {
				t.Fatal(many, term, state)
			}
		}
	})
	for many := 1; many <= 5; many++ {
		for _, state := range badStates(many) {
			for _, term := range []string{"a", "a!", "aa!|"} {
				if impl.ValueOf(many, marksOf(term), state) {
					t.Fatal(many, term, state)
				}
			}
		}
	}
	for _, many := range badMany() {
		for _, state := range append(farNumbers(), 0, 1, 31) {
			if impl.ValueOf(many, marksOf("aa!|"), state) {
				t.Fatal(many, state)
			}
		}
	}
}

// Promise 18.

func TestForcedIsWhatAllStatesThatAgreeHave(t *testing.T) {
	eachSomeTerm(func(many int, term []impl.Mark) {
		truth := truthOf(many, term)
		for _, known := range knownRows(many) {
			if got, ok := impl.ForcedBy(many, term, known); !ok || got != forcedIn(truth, known) {
				t.Fatal(many, term, known, got, ok)
			}
		}
	})
}

func TestWhatIsForcedStaysForced(t *testing.T) {
	eachSomeTerm(func(many int, term []impl.Mark) {
		for _, known := range knownRows(many) {
			got, _ := impl.ForcedBy(many, term, known)
			if got == impl.Unknown {
				continue
			}
			for at, before := range known {
				for said := 0; said <= 1 && before == impl.Unknown; said++ {
					more := slices.Clone(known)
					more[at] = said
					if still, ok := impl.ForcedBy(many, term, more); !ok || still != got {
						t.Fatal(many, term, known, more, still, ok)
					}
				}
			}
		}
	})
}

func TestWhatIsForcedIsTheValueInEachStateThatAgrees(t *testing.T) {
	eachSomeTerm(func(many int, term []impl.Mark) {
		for _, known := range knownRows(many) {
			got, _ := impl.ForcedBy(many, term, known)
			often := 0
			for state := range power(2, many) {
				if impl.AgreesOk(many, known, state) && impl.ValueOf(many, term, state) == (got != 0) {
					often++
				}
			}
			if agree := len(agreeing(known)); (got == impl.Unknown) == (often == agree || often == 0) {
				t.Fatal(many, term, known, got, often, agree)
			}
		}
	})
}

func TestIfAllIsKnownSomethingIsForced(t *testing.T) {
	eachTerm(func(many int, term []impl.Mark, _ string) {
		all := power(2, many) - 1
		for state := 0; state <= all; state++ {
			want := 0
			if impl.ValueOf(many, term, state) {
				want = 1
			}
			if got, ok := impl.ForcedBy(many, term, knownIn(many, state, all)); !ok || got != want {
				t.Fatal(many, term, state, got, ok)
			}
		}
	})
}

func TestIfNothingIsKnownJustWhatIsAlwaysSoIsForced(t *testing.T) {
	eachTerm(func(many int, term []impl.Mark, _ string) {
		truth := truthOf(many, term)
		want := impl.Unknown
		if !slices.Contains(truth, false) {
			want = 1
		} else if !slices.Contains(truth, true) {
			want = 0
		}
		if got, ok := impl.ForcedBy(many, term, knownIn(many, 0, 0)); !ok || got != want {
			t.Fatal(many, term, got, ok, want)
		}
	})
}

func TestForcedBySomeThatIsKnown(t *testing.T) {
	for _, forced := range []struct {
		signs string
		known []int
		want  int
	}{
		{"a", []int{-1}, -1}, {"a", []int{0}, 0}, {"a", []int{1}, 1}, {"a!", []int{0}, 1}, {"a!", []int{1}, 0},
		{"aa!|", []int{-1}, 1}, {"aa!&", []int{-1}, 0}, {"aa!|", []int{0}, 1}, {"aa!&", []int{1}, 0},
		{"aa!|", []int{-1, -1, -1, -1, -1}, 1}, {"ee!&", []int{-1, -1, -1, -1, -1}, 0},
		{"ab&", []int{-1, 0}, 0}, {"ab&", []int{-1, 1}, -1}, {"ab|", []int{-1, 1}, 1}, {"ab|", []int{0, -1}, -1},
		{"ab|a&", []int{-1, 1}, -1}, {"ab|a&", []int{1, -1}, 1}, {"ab!&a!b&|", []int{1, -1}, -1},
		{"ab&a!c&|", []int{-1, 1, 1}, 1}, {"ab&a!c&|", []int{-1, 0, 0}, 0}, {"ab&a!c&|", []int{-1, 0, 1}, -1}, {"ab&a!c&|", []int{0, 1, -1}, -1},
	} {
		if got, ok := impl.ForcedBy(len(forced.known), marksOf(forced.signs), forced.known); !ok || got != forced.want {
			t.Fatal(forced, got, ok)
		}
	}
}

func TestForcedByOfOthers(t *testing.T) {
	refused := func(many int, term []impl.Mark, known []int) {
		if got, ok := impl.ForcedBy(many, term, known); ok || got != impl.Unknown {
			t.Fatal(many, term, known, got, ok)
		}
	}
	eachNoTerm(func(many int, term []impl.Mark) {
		for length := range 7 {
			for _, said := range []int{-1, 0, 1} {
				refused(many, term, slices.Repeat([]int{said}, length))
			}
		}
	})
	for many := 1; many <= 5; many++ {
		for _, term := range []string{"a", "aa!|", "aa!&"} {
			for length := range 9 {
				if length != many {
					refused(many, marksOf(term), make([]int, length))
				}
			}
			for _, known := range badKnown() {
				refused(many, marksOf(term), known)
			}
		}
	}
	for _, many := range badMany() {
		for length := range 9 {
			refused(many, marksOf("aa!|"), make([]int, length))
		}
	}
}

// Promise 19.

func TestProofsAreTestsAfterWhichTheValueIsForced(t *testing.T) {
	eachSomeTerm(func(many int, term []impl.Mark) {
		truth := truthOf(many, term)
		for state := range truth {
			for some := range truth {
				want := provesIn(truth, state, some)
				if impl.ProofOk(many, term, state, some) != want {
					t.Fatal(many, term, state, some, want)
				}
				if value, _ := impl.ForcedBy(many, term, knownIn(many, state, some)); want != (value != impl.Unknown) {
					t.Fatal("forced", many, term, state, some, value)
				}
			}
		}
	})
}

func TestMoreTestsProveNoLess(t *testing.T) {
	eachSomeTerm(func(many int, term []impl.Mark) {
		all := power(2, many) - 1
		dual := impl.DualTerm(many, term)
		for state := 0; state <= all; state++ {
			for some := 0; some <= all; some++ {
				proves := impl.ProofOk(many, term, state, some)
				if impl.ProofOk(many, dual, all-state, some) != proves {
					t.Fatal("the dual", many, term, state, some)
				}
				for at := range many {
					if proves && !saysYes(some, at) && !impl.ProofOk(many, term, state, some+power(2, at)) {
						t.Fatal("one more", many, term, state, some, at)
					}
				}
			}
		}
	})
}

func TestAllTestsAreAProofAndNoneAreOneOfWhatIsAlwaysSo(t *testing.T) {
	eachTerm(func(many int, term []impl.Mark, _ string) {
		truth := truthOf(many, term)
		always := !slices.Contains(truth, true) || !slices.Contains(truth, false)
		for state := range truth {
			if !impl.ProofOk(many, term, state, len(truth)-1) {
				t.Fatal("all", many, term, state)
			}
			if impl.ProofOk(many, term, state, 0) != always {
				t.Fatal("none", many, term, state)
			}
		}
	})
}

func TestOthersAreNoProofs(t *testing.T) {
	refused := func(many int, term []impl.Mark, state, some int) {
		if impl.ProofOk(many, term, state, some) {
			t.Fatal(many, term, state, some)
		}
	}
	eachNoTerm(func(many int, term []impl.Mark) {
		for _, state := range []int{0, 1, 31} {
			for _, some := range []int{0, 1, 31} {
				refused(many, term, state, some)
			}
		}
	})
	for many := 1; many <= 5; many++ {
		all := power(2, many) - 1
		for _, term := range []string{"a", "aa!|", "aa!&"} {
			for _, bad := range badStates(many) {
				refused(many, marksOf(term), bad, 0)
				refused(many, marksOf(term), bad, all)
				refused(many, marksOf(term), 0, bad)
				refused(many, marksOf(term), all, bad)
				refused(many, marksOf(term), bad, bad)
			}
		}
	}
	for _, many := range badMany() {
		for _, number := range append(farNumbers(), 0, 1, 31) {
			refused(many, marksOf("aa!|"), number, number)
			refused(many, marksOf("aa!|"), 0, number)
			refused(many, marksOf("aa!|"), number, 0)
		}
	}
}

// Promise 20.

func TestLeastProofsOfSomeTerms(t *testing.T) {
	for _, proofs := range []struct {
		many  int
		signs string
		state int
		want  []int
	}{
		{1, "a", 0, []int{1}}, {1, "a!", 1, []int{1}}, {5, "c", 31, []int{4}}, {5, "e", 0, []int{16}},
		{1, "aa!|", 0, []int{0}}, {1, "aa!&", 1, []int{0}}, {5, "aa!|", 17, []int{0}}, {5, "ee!&", 31, []int{0}},
		{2, "ab&", 0, []int{1, 2}}, {2, "ab&", 1, []int{2}}, {2, "ab&", 3, []int{3}}, {2, "ab|", 0, []int{3}}, {2, "ab|", 3, []int{1, 2}},
		{2, "ab!&a!b&|", 2, []int{3}}, {2, "ab|a&", 3, []int{1}}, {2, "aa!&b|", 1, []int{2}},
		{3, "ab|c!&", 3, []int{5, 6}}, {3, "ab|c!&", 4, []int{3, 4}}, {3, "ab&ab|c&|", 7, []int{3, 5, 6}}, {3, "ab&a!c&|", 7, []int{3, 6}}, {3, "ab&a!c&|", 6, []int{5, 6}},
		{5, "abcde&&&&", 31, []int{31}}, {5, "abcde&&&&", 0, []int{1, 2, 4, 8, 16}}, {5, "abcde||||", 0, []int{31}}, {5, "ab&cd&|", 0, []int{5, 6, 9, 10}},
	} {
		if got := impl.LeastProofs(proofs.many, marksOf(proofs.signs), proofs.state); !slices.Equal(got, proofs.want) {
			t.Fatal(proofs, got)
		}
	}
}

func TestLeastProofsAreThoseWithinWhichNoOtherOneIs(t *testing.T) {
	eachSomeTerm(func(many int, term []impl.Mark) {
		truth := truthOf(many, term)
		for state := range truth {
			if got, want := impl.LeastProofs(many, term, state), leastIn(truth, state); !slices.Equal(got, want) {
				t.Fatal(many, term, state, got, want)
			}
		}
	})
}

func TestEachProofHasALeastOneWithinIt(t *testing.T) {
	eachSomeTerm(func(many int, term []impl.Mark) {
		idle := impl.IdleTests(many, term)
		for state := range power(2, many) {
			list := impl.LeastProofs(many, term, state)
			for i, proof := range list {
				if !impl.ProofOk(many, term, state, proof) || proof&idle != 0 {
					t.Fatal("no proof, or with an idle test", many, term, state, proof, idle)
				}
				if i > 0 && list[i-1] >= proof {
					t.Fatal("not ascending", many, term, state, list)
				}
				for _, other := range list[:i] {
					if isWithinSet(other, proof) || isWithinSet(proof, other) {
						t.Fatal("one within another", many, term, state, list)
					}
				}
			}
			for some := range power(2, many) {
				has := slices.ContainsFunc(list, func(proof int) bool { return isWithinSet(proof, some) })
				if has != impl.ProofOk(many, term, state, some) {
					t.Fatal("a proof without a least one", many, term, state, some, list)
				}
			}
		}
	})
}

func TestLeastProofsOfBothValuesHaveATestInCommon(t *testing.T) {
	eachSomeTerm(func(many int, term []impl.Mark) {
		truth := truthOf(many, term)
		lists := make([][]int, len(truth))
		for state := range truth {
			lists[state] = impl.LeastProofs(many, term, state)
		}
		for state := range truth {
			for other := range state {
				if truth[state] == truth[other] {
					continue
				}
				for _, first := range lists[state] {
					for _, second := range lists[other] {
						if first&second&(state^other) == 0 {
							t.Fatal(many, term, state, other, first, second)
						}
					}
				}
			}
		}
	})
}

func TestLeastProofsOfOthers(t *testing.T) {
	eachNoTerm(func(many int, term []impl.Mark) {
		for _, state := range []int{0, 1, 31} {
			if got := impl.LeastProofs(many, term, state); len(got) != 0 {
				t.Fatal(many, term, state, got)
			}
		}
	})
	for many := 1; many <= 5; many++ {
		for _, state := range badStates(many) {
			for _, term := range []string{"a", "aa!|", "aa!&"} {
				if got := impl.LeastProofs(many, marksOf(term), state); len(got) != 0 {
					t.Fatal(many, term, state, got)
				}
			}
		}
	}
	for _, many := range badMany() {
		for _, state := range append(farNumbers(), 0, 1, 31) {
			if got := impl.LeastProofs(many, marksOf("aa!|"), state); len(got) != 0 {
				t.Fatal(many, state, got)
			}
		}
	}
}

// Promise 21.

// turnedTests are tests of so many, with other chances and costs in each turn.
func turnedTests(many, turn int) []impl.Test {
	chances := make([]int, many)
	for at := range chances {
		chances[at] = 1 + turn%5
		turn = turn/5 + 3*turn + at
	}
	return testsOf(chances)
}

func TestTrueWeightIsThatOfAllStatesInWhichItIsTrue(t *testing.T) {
	turn := 0
	eachTerm(func(many int, term []impl.Mark, _ string) {
		turn++
		tests := turnedTests(many, turn)
		want := 0
		for state, isTrue := range truthOf(many, term) {
			if isTrue {
				want += impl.WeightOf(tests, state)
			}
		}
		if got := impl.TrueWeight(tests, term); got != want {
			t.Fatal(tests, term, got, want)
		}
	})
}

func TestTrueAndNotTrueAreAll(t *testing.T) {
	turn := 0
	eachTerm(func(many int, term []impl.Mark, _ string) {
		turn++
		tests := turnedTests(many, turn)
		weight, all := impl.TrueWeight(tests, term), power(6, many)
		if weight+impl.TrueWeight(impl.OtherTests(tests), impl.DualTerm(many, term)) != all {
			t.Fatal("the dual", tests, term)
		}
		if not, isTerm := withNot(term); isTerm && weight+impl.TrueWeight(tests, not) != all {
			t.Fatal("not", tests, term)
		}
	})
}

func TestTrueWeightOfSomeTerms(t *testing.T) {
	eachTests(func(tests []impl.Test) {
		all := power(6, len(tests))
		for at, test := range tests {
			letter := "abcde"[at : at+1]
			if impl.TrueWeight(tests, marksOf(letter)) != all/6*test.Chance || impl.TrueWeight(tests, marksOf(letter+"!")) != all/6*(6-test.Chance) {
				t.Fatal(tests, letter)
			}
			if impl.TrueWeight(tests, marksOf(letter+letter+"!|")) != all || impl.TrueWeight(tests, marksOf(letter+letter+"!&")) != 0 {
				t.Fatal("always, or never", tests, letter)
			}
		}
		if len(tests) >= 2 && impl.TrueWeight(tests, marksOf("ab&")) != all/36*tests[0].Chance*tests[1].Chance {
			t.Fatal("both", tests)
		}
	})
}

func TestTrueWeightOfOthers(t *testing.T) {
	for _, tests := range badTests() {
		for _, term := range append(badTerms(), marksOf("a"), marksOf("aa!|"), marksOf("aa!&"), marksOf("abcde&&&&")) {
			if got := impl.TrueWeight(tests, term); got != -1 {
				t.Fatal(tests, term, got)
			}
		}
	}
	eachNoTerm(func(many int, term []impl.Mark) {
		if many >= 1 && many <= 5 {
			if got := impl.TrueWeight(equalTests(many, 2), term); got != -1 {
				t.Fatal(many, term, got)
			}
		}
	})
}

// Promise 22.

func TestIdleTestsOfSomeTerms(t *testing.T) {
	for _, idle := range []struct {
		many  int
		signs string
		want  int
	}{
		{1, "a", 0}, {1, "a!", 0}, {5, "a", 30}, {5, "e", 15}, {5, "c!", 27},
		{1, "aa!|", 1}, {1, "aa!&", 1}, {5, "aa!|", 31}, {5, "ee!&", 31}, {5, "abcdee!|||||", 31}, {5, "abcdee!&&&&&!", 31},
		{2, "aa!&b|", 1}, {3, "aa!&b|", 5}, {2, "ab|a&", 2}, {2, "ab&a|", 2}, {3, "ab|ab!|&", 6}, {5, "ab&ab!&|e|", 14},
		{2, "ab&", 0}, {2, "ab!&a!b&|", 0}, {3, "ab&ab|c&|", 0}, {5, "abcde&&&&", 0}, {4, "bd|", 5}, {5, "cd&c!e&|", 3},
	} {
		if got := impl.IdleTests(idle.many, marksOf(idle.signs)); got != idle.want {
			t.Fatal(idle, got)
		}
	}
}

func TestIdleTestsMayComeOutEitherWayInEachState(t *testing.T) {
	eachTerm(func(many int, term []impl.Mark, _ string) {
		if got, want := impl.IdleTests(many, term), idleIn(truthOf(many, term)); got != want {
			t.Fatal(many, term, got, want)
		}
	})
}

func TestTestsThatAreNotReadNeverMatter(t *testing.T) {
	eachTerm(func(many int, term []impl.Mark, _ string) {
		idle := impl.IdleTests(many, term)
		unread := power(2, many) - 1 - impl.LettersOf(many, term)
		if !isWithinSet(unread, idle) || impl.OnceOk(many, term) && idle != unread {
			t.Fatal(many, term, idle, unread)
		}
		if impl.IdleTests(many, impl.DualTerm(many, term)) != idle {
			t.Fatal("the dual", many, term)
		}
	})
}

func TestIdleTestsOfOthers(t *testing.T) {
	eachNoTerm(func(many int, term []impl.Mark) {
		if got := impl.IdleTests(many, term); got != -1 {
			t.Fatal(many, term, got)
		}
	})
}

// Promise 23.

func TestTurnsInSomeStates(t *testing.T) {
	for _, turns := range []struct {
		many  int
		signs string
		state int
		want  int
	}{
		{1, "a", 0, 1}, {1, "a!", 1, 1}, {5, "c", 31, 4}, {5, "e", 0, 16},
		{1, "aa!|", 0, 0}, {5, "aa!&", 31, 0},
		{2, "ab&", 0, 0}, {2, "ab&", 1, 2}, {2, "ab&", 3, 3}, {2, "ab|", 0, 3}, {2, "ab|", 3, 0}, {2, "ab!&a!b&|", 2, 3}, {2, "ab|a&", 3, 1},
		{3, "ab|c!&", 1, 5}, {3, "ab|c!&", 3, 4}, {3, "ab&ab|c&|", 7, 0}, {3, "ab&ab|c&|", 3, 3}, {5, "abcde&&&&", 31, 31}, {5, "abcde&&&&", 15, 16},
	} {
		if got := impl.TurnsIn(turns.many, marksOf(turns.signs), turns.state); got != turns.want {
			t.Fatal(turns, got)
		}
	}
}

func TestTurnsAreThoseOfJustOneTest(t *testing.T) {
	eachTerm(func(many int, term []impl.Mark, _ string) {
		truth := truthOf(many, term)
		for state := range truth {
			if got, want := impl.TurnsIn(many, term, state), turnedIn(truth, state); got != want {
				t.Fatal(many, term, state, got, want)
			}
		}
	})
}

func TestWhatTurnsAloneIsInEachProof(t *testing.T) {
	eachSomeTerm(func(many int, term []impl.Mark) {
		idle := impl.IdleTests(many, term)
		for state := range power(2, many) {
			turns := impl.TurnsIn(many, term, state)
			common := power(2, many) - 1
			for _, proof := range impl.LeastProofs(many, term, state) {
				common &= proof
			}
			if turns != common || turns&idle != 0 {
				t.Fatal(many, term, state, turns, common, idle)
			}
		}
	})
}

func TestTurnsInOfOthers(t *testing.T) {
	eachNoTerm(func(many int, term []impl.Mark) {
		for _, state := range []int{0, 1, 31} {
			if got := impl.TurnsIn(many, term, state); got != -1 {
				t.Fatal(many, term, state, got)
			}
		}
	})
	for many := 1; many <= 5; many++ {
		for _, state := range badStates(many) {
			for _, term := range []string{"a", "aa!|", "aa!&"} {
				if got := impl.TurnsIn(many, marksOf(term), state); got != -1 {
					t.Fatal(many, term, state, got)
				}
			}
		}
	}
	for _, many := range badMany() {
		for _, state := range append(farNumbers(), 0, 1, 31) {
			if got := impl.TurnsIn(many, marksOf("a"), state); got != -1 {
				t.Fatal(many, state, got)
			}
		}
	}
}

// Promise 24.

func TestWhatForcesIsAProof(t *testing.T) {
	eachSomeTerm(func(many int, term []impl.Mark) {
		for _, known := range knownRows(many) {
			some := 0
			for at, said := range known {
				if said != impl.Unknown {
					some += power(2, at)
				}
			}
			value, _ := impl.ForcedBy(many, term, known)
			for _, state := range agreeing(known) {
				if !impl.AgreesOk(many, known, state) || impl.ProofOk(many, term, state, some) != (value != impl.Unknown) {
					t.Fatal(many, term, known, state, value)
				}
			}
		}
	})
}

// General rules: results are new memory, arguments are never written to, and no call leaves anything behind for the next one.

func TestLeastProofsAreNewMemory(t *testing.T) {
	term := marksOf("ab&cd&|")
	first, second := impl.LeastProofs(4, term, 0), impl.LeastProofs(4, term, 0)
	first = first[:cap(first)]
	for i := range first {
		first[i] = 77
	}
	want := []int{5, 6, 9, 10}
	if !slices.Equal(second, want) || !slices.Equal(impl.LeastProofs(4, term, 0), want) {
		t.Fatal(first, second)
	}
}

func TestArgumentsOfValuesAreNotWrittenTo(t *testing.T) {
	eachSomeTerm(func(many int, term []impl.Mark) {
		room := append(slices.Clone(term), nots(5)...)
		roomBefore := slices.Clone(room)
		tests, known := turnedTests(many, len(term)), knownIn(many, 5, 9)
		testsBefore, knownBefore := slices.Clone(tests), slices.Clone(known)
		first := valuesFor(tests, room[:len(term)], known)
		if !slices.Equal(room, roomBefore) || !slices.Equal(tests, testsBefore) || !slices.Equal(known, knownBefore) {
			t.Fatal(many, term, room, tests, known)
		}
		if again := valuesFor(tests, room[:len(term)], known); !slices.Equal(first, again) {
			t.Fatal("called again", many, term, first, again)
		}
	})
}

// valuesFor calls all functions of the chapter and returns their numbers.
func valuesFor(tests []impl.Test, term []impl.Mark, known []int) []int {
	many := len(tests)
	forced, _ := impl.ForcedBy(many, term, known)
	answers := []int{forced, impl.TrueWeight(tests, term), impl.IdleTests(many, term)}
	for state := range power(2, many) {
		answers = append(answers, impl.TurnsIn(many, term, state))
		answers = append(answers, impl.LeastProofs(many, term, state)...)
		if impl.ValueOf(many, term, state) {
			answers = append(answers, -2)
		}
		if impl.ProofOk(many, term, state, state) {
			answers = append(answers, -3)
		}
	}
	return answers
}
