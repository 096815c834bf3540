package tests

import (
	"slices"
	"sync"

	"loop.example/checksinorder/impl"
)

// writtenTerm is a term for so many tests, and its text.
type writtenTerm struct {
	many  int
	marks []impl.Mark
	text  string
}

// marksOf makes marks of signs, and of letters for tests, in the order of the marks.
func marksOf(signs string) []impl.Mark {
	var marks []impl.Mark
	for _, sign := range []byte(signs) {
		switch sign {
		case '!':
			marks = append(marks, impl.Mark{Kind: impl.MarkNot})
		case '&':
			marks = append(marks, impl.Mark{Kind: impl.MarkAnd})
		case '|':
			marks = append(marks, impl.Mark{Kind: impl.MarkOr})
		default:
			marks = append(marks, impl.Mark{Kind: impl.MarkTest, At: int(sign) - 'a'})
		}
	}
	return marks
}

// textIn returns the text of a part, in round brackets if its last mark is of one of some kinds.
func (part writtenTerm) textIn(kinds ...int) string {
	if slices.Contains(kinds, part.marks[len(part.marks)-1].Kind) {
		return "(" + part.text + ")"
	}
	return part.text
}

// negated is not of a part.
func negated(part writtenTerm) writtenTerm {
	marks := slices.Concat(part.marks, marksOf("!"))
	return writtenTerm{part.many, marks, "!" + part.textIn(impl.MarkAnd, impl.MarkOr)}
}

// joined puts two parts together: as both, and as one at least.
func joined(first, second writtenTerm) []writtenTerm {
	both := first.textIn(impl.MarkOr) + "&" + second.textIn(impl.MarkOr, impl.MarkAnd)
	one := first.text + "|" + second.textIn(impl.MarkOr)
	return []writtenTerm{
		{first.many, slices.Concat(first.marks, second.marks, marksOf("&")), both},
		{first.many, slices.Concat(first.marks, second.marks, marksOf("|")), one},
	}
}

// termsUpTo lists all terms for so many tests that have at most so many marks: those of each number of marks by themselves.
func termsUpTo(many, most int) [][]writtenTerm {
	lists := make([][]writtenTerm, most+1)
	for at := range many {
		letter := "abcde"[at : at+1]
		lists[1] = append(lists[1], writtenTerm{many, marksOf(letter), letter})
	}
	for size := 2; size <= most; size++ {
		for _, part := range lists[size-1] {
			lists[size] = append(lists[size], negated(part))
		}
		for left := 1; left < size-1; left++ {
			for _, first := range lists[left] {
				for _, second := range lists[size-1-left] {
					lists[size] = append(lists[size], joined(first, second)...)
				}
			}
		}
	}
	return lists
}

// relettered is a term for one test with the letters of so many tests, in turn.
func relettered(term writtenTerm, many, turn int) writtenTerm {
	marks, text := slices.Clone(term.marks), []byte(term.text)
	letter := turn
	for i := range marks {
		if marks[i].Kind == impl.MarkTest {
			marks[i].At = letter % many
			letter += 1 + turn%2
		}
	}
	letter = turn
	for i := range text {
		if text[i] == 'a' {
			text[i] = "abcde"[letter%many]
			letter += 1 + turn%2
		}
	}
	return writtenTerm{many, marks, string(text)}
}

// manyTerms lists all terms of a few marks, and some of each greater number of marks.
var manyTerms = sync.OnceValue(func() []writtenTerm {
	var list []writtenTerm
	for i, most := range []int{9, 7, 6, 6, 6} {
		list = append(list, slices.Concat(termsUpTo(1+i, most)...)...)
	}
	for turn, term := range slices.Concat(termsUpTo(1, 13)...) {
		if turn%11 == 0 {
			list = append(list, relettered(term, 1+turn%5, turn))
		}
	}
	return list
})

// eachTerm calls visit for many terms, of each number of tests and of marks.
func eachTerm(visit func(many int, term []impl.Mark, text string)) {
	for _, term := range manyTerms() {
		visit(term.many, slices.Clone(term.marks), term.text)
	}
}

// badTerms lists rows that are no terms, for any number of tests.
func badTerms() [][]impl.Mark {
	list := [][]impl.Mark{nil, {}}
	for _, signs := range []string{"!", "&", "|", "!a", "&a", "a&", "a|", "|aa", "a|a", "aa", "aaa&", "aa&&", "aa||a", "a!&", "aa!", "f", "`", "af&", "A", "aaaaaaa&&&&&", "aaaaaaa&&&&&&&"} {
		list = append(list, marksOf(signs))
	}
	for _, greater := range []int{14, 15, 16, 40, 1000} {
		list = append(list, nots(greater), ands(greater))
	}
	for _, number := range append(farNumbers(), 4, 5, 6, 7) {
		list = append(list,
			[]impl.Mark{{Kind: number}},
			[]impl.Mark{{}, {Kind: number}},
			[]impl.Mark{{}, {}, {Kind: number}})
	}
	for _, number := range append(farNumbers(), 1, 2, 4, 5) {
		list = append(list,
			[]impl.Mark{{}, {Kind: impl.MarkNot, At: number}},
			[]impl.Mark{{}, {}, {Kind: impl.MarkAnd, At: number}},
			[]impl.Mark{{}, {}, {Kind: impl.MarkOr, At: number}})
	}
	for _, number := range append(farNumbers(), 5, 6) {
		list = append(list,
			[]impl.Mark{{At: number}},
			[]impl.Mark{{At: number}, {Kind: impl.MarkNot}},
			[]impl.Mark{{}, {At: number}, {Kind: impl.MarkAnd}},
			[]impl.Mark{{At: number}, {}, {Kind: impl.MarkOr}})
	}
	return list
}

// nots is a row of so many marks: a test, and MarkNot again and again.
func nots(size int) []impl.Mark {
	return append(marksOf("a"), slices.Repeat(marksOf("!"), size-1)...)
}

// ands is a row of so many marks: a test, and further ones with MarkAnd behind each; MarkNot makes an even number of them.
func ands(size int) []impl.Mark {
	marks := marksOf("a")
	for len(marks)+2 <= size {
		marks = append(marks, marksOf("a&")...)
	}
	return append(marks, slices.Repeat(marksOf("!"), size-len(marks))...)
}

// readIn tells how often a term has each test.
func readIn(term []impl.Mark) [5]int {
	var often [5]int
	for _, mark := range term {
		if mark.Kind == impl.MarkTest {
			often[mark.At]++
		}
	}
	return often
}

// edgeTerms are terms, as their marks stand, for so many tests, with what is easily forgotten.
var edgeTerms = []struct {
	many  int
	signs string
}{
	// One test alone, of one and of more.
	{1, "a"}, {1, "a!"}, {5, "a"}, {5, "e"}, {5, "e!"}, {3, "b!!"},
	// Always true, and never, in one test and in all, up to MaxMarks marks.
	{1, "aa!|"}, {1, "aa!&"}, {1, "aa!&!"}, {2, "aa!|"}, {2, "bb!&"}, {4, "dd!|"}, {5, "aa!|"}, {5, "ee!&"}, {5, "aa!|bb!|&"}, {5, "abcdee!|||||"}, {5, "abcdee!|||||!"}, {5, "abcdee!&&&&&"}, {5, "abcdee!&&&&&!"}, {2, "ab&ab&!|!!!!!"}, {2, "ab|ab|!&!!!!!"},
	// A test that is read, but never matters, and one that is not read.
	{2, "aa!&b|"}, {3, "aa!&b|"}, {3, "aa!|b&"}, {2, "ab|a&"}, {2, "ab&a|"}, {3, "ab|ab!|&"}, {4, "dc!d|&"}, {5, "ab&ab!&|e|"}, {5, "bb!&daa!|&|"},
	// All tests matter in each state, or any two of three, or which ones depends on the first one.
	{2, "ab!&a!b&|"}, {2, "ab&a!b!&|"}, {3, "ab&ab|c&|"}, {3, "ab&a!c&|"}, {5, "cd&c!e&|"}, {4, "ab&cd&|"}, {5, "ab|cd|e&&"},
	// All of them, and one at least, and MaxMarks marks.
	{5, "ab&c&d&e&"}, {5, "ab|c|d|e|"}, {5, "abcde&&&&"}, {5, "abcde||||"}, {5, "abcdeab|&|&|&"}, {5, "ab|c&d|e&a|b&"}, {5, "ab&c!d&|e&!a|"}, {1, "a!!!!!!!!!!!!"}, {1, "aaaaaaa&&&&&&"}, {3, "ab!c|&a!b&c&|"},
}

// eachSomeTerm calls visit for fewer terms than eachTerm does, for what is to be tried with each of many other arguments: those of edgeTerms, and each seventh of the others.
func eachSomeTerm(visit func(many int, term []impl.Mark)) {
	for _, term := range edgeTerms {
		visit(term.many, marksOf(term.signs))
	}
	for turn, term := range manyTerms() {
		if turn%7 == 0 {
			visit(term.many, slices.Clone(term.marks))
		}
	}
}

// withNot is a term with MarkNot behind it, and whether that has few enough marks for a term.
func withNot(term []impl.Mark) ([]impl.Mark, bool) {
	return slices.Concat(term, marksOf("!")), len(term) < 13
}
