package impl

// MaxTests is the maximum number of tests, MaxCost the greatest cost, Sixths the number of parts of a whole chance, and Unknown what is not known of a test.
const (
	MaxTests = 5
	MaxCost  = 9
	Sixths   = 6
	Unknown  = -1
)

// Test has a cost (Cost), and a chance to come out yes, in sixths (Chance).
type Test struct {
	Cost   int
	Chance int
}

// TestsOk reports whether there are 1..MaxTests tests, each with a cost in 1..MaxCost, and a chance in 1..Sixths less 1.
func TestsOk(tests []Test) bool {
	if !manyOk(len(tests)) {
		return false
	}
	for _, test := range tests {
		if !isWithin(test.Cost, 1, MaxCost) || !isWithin(test.Chance, 1, Sixths-1) {
			return false
		}
	}
	return true
}

// StateOk reports whether a number tells a state of so many tests, in 1..MaxTests: to it each test that comes out yes adds 1 for the test 0, 2 for 1, and so on, each next one twice as much; from 0 on, and less than 2 to the power of the number of tests.
func StateOk(many int, state int) bool {
	return manyOk(many) && isWithin(state, 0, statesOf(many)-1)
}

// WeightOf returns the weight of a state of tests (TestsOk, StateOk): the product, over all tests, of Chance for each that comes out yes, and Sixths less Chance for each other one; -1 for others.
func WeightOf(tests []Test, state int) int {
	if !TestsOk(tests) || !StateOk(len(tests), state) {
		return -1
	}
	weight := 1
	for at, test := range tests {
		if outcomeIn(state, at) == 1 {
			weight *= test.Chance
		} else {
			weight *= Sixths - test.Chance
		}
	}
	return weight
}

// OtherTests returns tests (TestsOk) with Sixths less Chance for each chance; nil for others.
func OtherTests(tests []Test) []Test {
	if !TestsOk(tests) {
		return nil
	}
	others := make([]Test, len(tests))
	for at, test := range tests {
		others[at] = Test{Cost: test.Cost, Chance: Sixths - test.Chance}
	}
	return others
}

// KnownOk reports whether a row tells what is known of so many tests, in 1..MaxTests: for each of them Unknown, 0 for no, or 1 for yes.
func KnownOk(many int, known []int) bool {
	if !manyOk(many) || len(known) != many {
		return false
	}
	for _, said := range known {
		if said != Unknown && said != 0 && said != 1 {
			return false
		}
	}
	return true
}

// AgreesOk reports whether a state agrees with what is known of so many tests (StateOk, KnownOk): whether each test of which something is known comes out so; false for others.
func AgreesOk(many int, known []int, state int) bool {
	if !StateOk(many, state) || !KnownOk(many, known) {
		return false
	}
	for at, said := range known {
		if said != Unknown && said != outcomeIn(state, at) {
			return false
		}
	}
	return true
}

// WeightWhere returns the weights of all states of tests that agree with what is known, together (TestsOk, KnownOk, AgreesOk, WeightOf); -1 for others.
func WeightWhere(tests []Test, known []int) int {
	many := len(tests)
	if !TestsOk(tests) || !KnownOk(many, known) {
		return -1
	}
	weight := 0
	for state := range statesOf(many) {
		if AgreesOk(many, known, state) {
			weight += WeightOf(tests, state)
		}
	}
	return weight
}

// CostOf returns the costs of all tests together (TestsOk); -1 for others.
func CostOf(tests []Test) int {
	if !TestsOk(tests) {
		return -1
	}
	cost := 0
	for _, test := range tests {
		cost += test.Cost
	}
	return cost
}

// LikeliestState returns the state of tests with the greatest weight (TestsOk, WeightOf), of equal ones the least; -1 for others.
func LikeliestState(tests []Test) int {
	if !TestsOk(tests) {
		return -1
	}
	likeliest := 0
	for state := range statesOf(len(tests)) {
		if WeightOf(tests, state) > WeightOf(tests, likeliest) {
			likeliest = state
		}
	}
	return likeliest
}

// manyOk reports whether there may be so many tests.
func manyOk(many int) bool {
	return isWithin(many, 1, MaxTests)
}

// isWithin reports whether a number is in least..greatest.
func isWithin(number, least, greatest int) bool {
	return least <= number && number <= greatest
}

// statesOf returns how many states so many tests have; many is in 1..MaxTests.
func statesOf(many int) int {
	return 1 << many
}

// wholeOf returns the weights of all states of so many tests together, Sixths to the power of their number; many is in 1..MaxTests.
func wholeOf(many int) int {
	whole := 1
	for range many {
		whole *= Sixths
	}
	return whole
}

// outcomeIn returns how the test at a place comes out in a state, 0 or 1, as a row of what is known has it.
func outcomeIn(state, at int) int {
	return state >> at & 1
}
