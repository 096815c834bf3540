package tests

import (
	"slices"

	"loop.example/checksinorder/impl"
)

// trueIn tells whether a term is true in a state, from its last mark on.
func trueIn(many int, term []impl.Mark, state int) bool {
	last := len(term) - 1
	before := term[:last]
	switch term[last].Kind {
	case impl.MarkTest:
		return saysYes(state, term[last].At)
	case impl.MarkNot:
		return !trueIn(many, before, state)
	}
	middle, _ := startOfPart(many, before, last)
	first, second := trueIn(many, before[:middle], state), trueIn(many, before[middle:], state)
	if term[last].Kind == impl.MarkAnd {
		return first && second
	}
	return first || second
}

// truthOf tells for each state whether a term is true in it.
func truthOf(many int, term []impl.Mark) []bool {
	truth := make([]bool, power(2, many))
	for state := range truth {
		truth[state] = trueIn(many, term, state)
	}
	return truth
}

// knownIn is what is known if just some tests are asked in a state.
func knownIn(many, state, some int) []int {
	known := slices.Repeat([]int{-1}, many)
	for at := range known {
		if saysYes(some, at) {
			known[at] = 0
			if saysYes(state, at) {
				known[at] = 1
			}
		}
	}
	return known
}

// agreeing lists the states that agree with what is known.
func agreeing(known []int) []int {
	states := []int{0}
	place := 1
	for _, said := range known {
		var more []int
		for _, state := range states {
			if said != 1 {
				more = append(more, state)
			}
			if said != 0 {
				more = append(more, state+place)
			}
		}
		states = more
		place *= 2
	}
	return states
}

// forcedIn tells which value all states have that agree with what is known: -1 if they have both.
func forcedIn(truth []bool, known []int) int {
	often := map[bool]int{}
	for _, state := range agreeing(known) {
		often[truth[state]]++
	}
	switch {
	case often[false] == 0:
		return 1
	case often[true] == 0:
		return 0
	}
	return -1
}

// provesIn tells whether some tests prove in a state: whether no state in which they come out so has the other value.
func provesIn(truth []bool, state, some int) bool {
	for other := range truth {
		if (other^state)&some == 0 && truth[other] != truth[state] {
			return false
		}
	}
	return true
}

// proofsIn lists the proofs in a state, over all sets of tests.
func proofsIn(truth []bool, state int) []int {
	var proofs []int
	for some := range truth {
		if provesIn(truth, state, some) {
			proofs = append(proofs, some)
		}
	}
	return proofs
}

// leastIn lists the proofs in a state within which no other one is.
func leastIn(truth []bool, state int) []int {
	proofs := proofsIn(truth, state)
	return slices.DeleteFunc(slices.Clone(proofs), func(some int) bool {
		return slices.ContainsFunc(proofs, func(other int) bool { return other != some && isWithinSet(other, some) })
	})
}

// isWithinSet tells whether all tests of a set are in another one.
func isWithinSet(set, other int) bool {
	return set&other == set
}

// turnedIn tells which tests alone turn the value in a state.
func turnedIn(truth []bool, state int) int {
	some, place := 0, 1
	for place < len(truth) {
		flipped := state + place
		if state/place%2 == 1 {
			flipped = state - place
		}
		if truth[flipped] != truth[state] {
			some += place
		}
		place *= 2
	}
	return some
}

// idleIn tells which tests turn the value in no state.
func idleIn(truth []bool) int {
	idle := len(truth) - 1
	for state := range truth {
		idle &^= turnedIn(truth, state)
	}
	return idle
}

// badStates are numbers that are no states of so many tests.
func badStates(many int) []int {
	return append(farNumbers(), power(2, many), power(2, many)+1)
}
