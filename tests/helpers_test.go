package tests

import (
	"math"
	"slices"

	"loop.example/checksinorder/impl"
)

// farNumbers are numbers that are neither a number of tests nor a state, whatever the other one is.
// Among them are those that a shift or a sum could overflow with.
func farNumbers() []int {
	return []int{-1, -2, -5, -64, math.MinInt32, math.MinInt, 32, 33, 63, 64, 65, 1 << 32, 1<<32 + 1, 1 << 62, math.MaxInt32, math.MaxInt}
}

// badMany are numbers of tests that may not be.
func badMany() []int {
	return append(farNumbers(), 0, impl.MaxTests+1, impl.MaxTests+2)
}

// rowsOf lists all rows of so many numbers in least..greatest.
func rowsOf(many, least, greatest int) [][]int {
	rows := [][]int{{}}
	for range many {
		var longer [][]int
		for _, row := range rows {
			for number := least; number <= greatest; number++ {
				longer = append(longer, append(slices.Clone(row), number))
			}
		}
		rows = longer
	}
	return rows
}

// knownRows lists all that may be known of so many tests.
func knownRows(many int) [][]int {
	return rowsOf(many, -1, 1)
}

// testsOf makes tests of chances, with costs that differ from each other and run up to the greatest one.
func testsOf(chances []int) []impl.Test {
	tests := make([]impl.Test, len(chances))
	for at, chance := range chances {
		tests[at] = impl.Test{Cost: 1 + (7*at+3*chance+len(chances))%9, Chance: chance}
	}
	return tests
}

// eachTests calls visit for tests of all chances: of so many of them as the program may have.
func eachTests(visit func(tests []impl.Test)) {
	for many := 1; many <= 5; many++ {
		for _, chances := range rowsOf(many, 1, 5) {
			visit(testsOf(chances))
		}
	}
}

// someTests lists fewer tests, for what is to be tried with each of many other arguments: all of up to three tests, and each 29th of more.
func someTests() [][]impl.Test {
	var list [][]impl.Test
	turn := 0
	eachTests(func(tests []impl.Test) {
		turn++
		if len(tests) <= 3 || turn%29 == 0 {
			list = append(list, tests)
		}
	})
	return append(list, equalTests(5, 3), equalTests(5, 5), equalTests(4, 1))
}

// equalTests makes so many tests of the greatest cost and of one chance.
func equalTests(many, chance int) []impl.Test {
	return slices.Repeat([]impl.Test{{Cost: 9, Chance: chance}}, many)
}

// badTests lists rows that are no tests: too few, too many, and each of 1..5 with one cost or one chance that may not be.
func badTests() [][]impl.Test {
	list := [][]impl.Test{nil, {}, equalTests(6, 3), equalTests(7, 1), equalTests(70, 1)}
	var bad []impl.Test
	for _, number := range []int{0, -1, math.MinInt, 10, math.MaxInt} {
		bad = append(bad, impl.Test{Cost: number, Chance: 3}, impl.Test{Cost: 3, Chance: number}, impl.Test{Cost: number, Chance: number})
	}
	bad = append(bad, impl.Test{Cost: 3, Chance: 6}, impl.Test{Cost: 3, Chance: 7})
	for many := 1; many <= 5; many++ {
		for at := range many {
			for _, test := range bad {
				tests := equalTests(many, 3)
				tests[at] = test
				list = append(list, tests)
			}
		}
	}
	return list
}

// power returns a number to the power of another one.
func power(base, exponent int) int {
	product := 1
	for range exponent {
		product *= base
	}
	return product
}

// saysYes tells whether the test at a place comes out yes in a state, by halving the state.
func saysYes(state, at int) bool {
	for range at {
		state /= 2
	}
	return state%2 == 1
}

// textsNear lists the texts that have one byte more than a text, one less, or another one; the bytes are some signs.
func textsNear(text, signs string) []string {
	var list []string
	for at := range len(text) + 1 {
		for _, sign := range []byte(signs) {
			list = append(list, text[:at]+string(sign)+text[at:])
			if at < len(text) {
				list = append(list, text[:at]+string(sign)+text[at+1:])
			}
		}
		if at < len(text) {
			list = append(list, text[:at]+text[at+1:])
		}
	}
	return list
}
