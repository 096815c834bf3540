package tests

import (
	"slices"
	"strings"
	"testing"

	"loop.example/checksinorder/impl"
)

func TestConstantsOfTerms(t *testing.T) {
	if impl.MarkTest != 0 || impl.MarkNot != 1 || impl.MarkAnd != 2 || impl.MarkOr != 3 || impl.MaxMarks != 13 {
		t.Fatal(impl.MarkTest, impl.MarkNot, impl.MarkAnd, impl.MarkOr, impl.MaxMarks)
	}
}

// Promise 11.

func TestOneTestIsATerm(t *testing.T) {
	for many := 1; many <= 5; many++ {
		for at := -3; at <= 70; at++ {
			if impl.TermOk(many, []impl.Mark{{Kind: impl.MarkTest, At: at}}) != (at >= 0 && at < many) {
				t.Fatal(many, at)
			}
		}
	}
}

func TestTermsWithOneMoreAreTerms(t *testing.T) {
	eachTerm(func(many int, term []impl.Mark, _ string) {
		if !impl.TermOk(many, term) {
			t.Fatal(many, term)
		}
		for _, more := range []string{"a&", "a|", "!"} {
			longer := slices.Concat(term, marksOf(more))
			if impl.TermOk(many, longer) != (len(longer) <= 13) {
				t.Fatal(many, term, more)
			}
		}
	})
}

func TestTermsHaveAtMostMaxMarks(t *testing.T) {
	for many := 1; many <= 5; many++ {
		for size := 1; size <= 100; size++ {
			if impl.TermOk(many, nots(size)) != (size <= 13) || impl.TermOk(many, ands(size)) != (size <= 13) {
				t.Fatal(many, size)
			}
		}
	}
}

func TestTermsAreOnePartInTheEnd(t *testing.T) {
	signs := marksOf("ab!&|")
	wrong := []impl.Mark{{At: 2}, {Kind: impl.MarkNot, At: 1}, {Kind: 4}, {Kind: -1}}
	for size := 1; size <= 7; size++ {
		eachRowOf(signs, size, func(term []impl.Mark) { compareTermOk(t, term) })
	}
	for size := 1; size <= 4; size++ {
		eachRowOf(slices.Concat(signs, wrong), size, func(term []impl.Mark) { compareTermOk(t, term) })
	}
}

// eachRowOf calls visit for all rows of so many of some marks; the row is the same memory in each call.
func eachRowOf(marks []impl.Mark, size int, visit func(row []impl.Mark)) {
	row := make([]impl.Mark, size)
	for turn := range power(len(marks), size) {
		for i := range row {
			row[i] = marks[turn%len(marks)]
			turn /= len(marks)
		}
		visit(row)
	}
}

// compareTermOk compares with a reading of the row from its end, for two tests.
func compareTermOk(t *testing.T, term []impl.Mark) {
	start, ok := startOfPart(2, term, len(term))
	if want := ok && start == 0; impl.TermOk(2, term) != want {
		t.Fatal(term, want)
	}
}

// startOfPart returns where the part that ends before a place of a row begins, and whether there is one.
func startOfPart(many int, term []impl.Mark, end int) (int, bool) {
	if end == 0 {
		return 0, false
	}
	last := term[end-1]
	switch {
	case last.Kind == impl.MarkTest:
		return end - 1, last.At >= 0 && last.At < many
	case last.At != 0:
		return 0, false
	case last.Kind == impl.MarkNot:
		return startOfPart(many, term, end-1)
	case last.Kind == impl.MarkAnd || last.Kind == impl.MarkOr:
		middle, ok := startOfPart(many, term, end-1)
		if !ok {
			return 0, false
		}
		return startOfPart(many, term, middle)
	}
	return 0, false
}

func TestOthersAreNoTerms(t *testing.T) {
	eachNoTerm(func(many int, term []impl.Mark) {
		if impl.TermOk(many, term) {
			t.Fatal(many, term)
		}
	})
}

// eachNoTerm calls visit for rows that are no terms for so many tests: whatever the number of tests is, of a test that there is not, and for numbers of tests that may not be.
func eachNoTerm(visit func(many int, term []impl.Mark)) {
	for many := 1; many <= 5; many++ {
		for _, term := range badTerms() {
			visit(many, term)
		}
		for at := many; at <= 5; at++ {
			letter := "abcdef"[at : at+1]
			for _, signs := range []string{letter, letter + "!", "a" + letter + "&", letter + "a|"} {
				visit(many, marksOf(signs))
			}
		}
	}
	for _, many := range badMany() {
		for _, term := range append(badTerms(), marksOf("a"), marksOf("a!"), marksOf("ab&"), marksOf("ab|c!&"), nots(13), ands(13)) {
			visit(many, term)
		}
	}
}

// Promise 12.

func TestLettersOfATestAlone(t *testing.T) {
	for many := 1; many <= 5; many++ {
		for at := range many {
			if got := impl.LettersOf(many, []impl.Mark{{At: at}}); got != power(2, at) {
				t.Fatal(many, at, got)
			}
		}
	}
}

func TestLettersAreThoseOfTheParts(t *testing.T) {
	eachTerm(func(many int, term []impl.Mark, _ string) {
		want := 0
		for at, often := range readIn(term) {
			if often > 0 {
				want += power(2, at)
			}
		}
		if got := impl.LettersOf(many, term); got != want || impl.LettersOf(many, impl.DualTerm(many, term)) != want {
			t.Fatal(many, term, got, want)
		}
		for at := range many {
			longer := slices.Concat(term, []impl.Mark{{At: at}, {Kind: impl.MarkAnd}})
			with := want
			if !saysYes(want, at) {
				with += power(2, at)
			}
			if len(longer) <= 13 && impl.LettersOf(many, longer) != with {
				t.Fatal("with one more", many, term, at)
			}
		}
	})
}

func TestLettersOfOthers(t *testing.T) {
	eachNoTerm(func(many int, term []impl.Mark) {
		if got := impl.LettersOf(many, term); got != -1 {
			t.Fatal(many, term, got)
		}
	})
}

// Promise 13.

func TestReadOnceThereAreAsManyTestsAsMarksOfTests(t *testing.T) {
	eachTerm(func(many int, term []impl.Mark, _ string) {
		often := readIn(term)
		want := slices.Max(often[:]) == 1
		if impl.OnceOk(many, term) != want || impl.OnceOk(many, impl.DualTerm(many, term)) != want {
			t.Fatal(many, term, want)
		}
		letters, marks, tests := impl.LettersOf(many, term), 0, 0
		for at := range 5 {
			marks += often[at]
			if saysYes(letters, at) {
				tests++
			}
		}
		if want != (marks == tests) {
			t.Fatal(many, term, marks, tests)
		}
	})
}

func TestOnceOkOfFiveTests(t *testing.T) {
	once, more := marksOf("ab|cd&!&e|"), marksOf("ab|cd&!&a|")
	if !impl.OnceOk(5, once) || impl.OnceOk(5, more) {
		t.Fatal(once, more)
	}
}

func TestOnceOkOfOthers(t *testing.T) {
	eachNoTerm(func(many int, term []impl.Mark) {
		if impl.OnceOk(many, term) {
			t.Fatal(many, term)
		}
	})
}

// Promise 14.

func TestDualTwiceItIsAsBefore(t *testing.T) {
	eachTerm(func(many int, term []impl.Mark, _ string) {
		want := slices.Clone(term)
		for i := range want {
			switch want[i].Kind {
			case impl.MarkAnd:
				want[i].Kind = impl.MarkOr
			case impl.MarkOr:
				want[i].Kind = impl.MarkAnd
			}
		}
		dual := impl.DualTerm(many, term)
		if !slices.Equal(dual, want) || !impl.TermOk(many, dual) {
			t.Fatal(many, term, dual)
		}
		if again := impl.DualTerm(many, dual); !slices.Equal(again, term) {
			t.Fatal("twice", many, term, again)
		}
	})
}

func TestDualTermOfOthers(t *testing.T) {
	eachNoTerm(func(many int, term []impl.Mark) {
		if got := impl.DualTerm(many, term); len(got) != 0 {
			t.Fatal(many, term, got)
		}
	})
}

// Promise 15.

// writtenTerms are terms, as their marks stand, and their texts: with brackets that are needed, and without all others.
var writtenTerms = []struct{ signs, text string }{
	{"a", "a"}, {"e", "e"},
	{"a!", "!a"}, {"a!!", "!!a"}, {"a!!!!!!!!!!!!", "!!!!!!!!!!!!a"},
	{"ab&", "a&b"}, {"ab|", "a|b"},
	{"ab&!", "!(a&b)"}, {"ab|!", "!(a|b)"}, {"ab|!!", "!!(a|b)"}, {"a!b!&!", "!(!a&!b)"},
	{"a!b&", "!a&b"}, {"ab!|", "a|!b"}, {"ab!!&", "a&!!b"},
	{"ab&c&", "a&b&c"}, {"abc&&", "a&(b&c)"},
	{"ab|c|", "a|b|c"}, {"abc||", "a|(b|c)"},
	{"ab&c|", "a&b|c"}, {"abc&|", "a|b&c"},
	{"ab|c&", "(a|b)&c"}, {"abc|&", "a&(b|c)"},
	{"ab&!c&", "!(a&b)&c"}, {"abc|!&", "a&!(b|c)"}, {"abc|!|", "a|!(b|c)"},
	{"ab|cd|&", "(a|b)&(c|d)"}, {"ab&cd&|", "a&b|c&d"}, {"ab|cd||", "a|b|(c|d)"}, {"ab&cd&&", "a&b&(c&d)"}, {"ab&cd|&", "a&b&(c|d)"}, {"ab|cd&&", "(a|b)&(c&d)"},
	{"abcde||||", "a|(b|(c|(d|e)))"},
	{"aaaaaaa&&&&&&", "a&(a&(a&(a&(a&(a&a)))))"},
	{"abcdea|&|&|!!", "!!(a|b&(c|d&(e|a)))"},
	{"ab|c&d|e&a|b&", "(((a|b)&c|d)&e|a)&b"},
}

func TestTextsOfSomeTerms(t *testing.T) {
	for _, term := range writtenTerms {
		marks := marksOf(term.signs)
		if got := impl.TermText(5, marks); got != term.text {
			t.Fatal(term.signs, got, term.text)
		}
	}
}

func TestTextsOfManyTerms(t *testing.T) {
	eachTerm(func(many int, term []impl.Mark, text string) {
		if got := impl.TermText(many, term); got != text {
			t.Fatal(many, term, got, text)
		}
	})
}

func TestTextsOfTermsAreRead(t *testing.T) {
	eachTerm(func(many int, term []impl.Mark, _ string) {
		text := impl.TermText(many, term)
		if got, ok := impl.ReadTerm(many, text); !ok || !slices.Equal(got, term) {
			t.Fatal(many, term, text, got, ok)
		}
	})
	for _, term := range writtenTerms {
		if got, ok := impl.ReadTerm(5, term.text); !ok || !slices.Equal(got, marksOf(term.signs)) {
			t.Fatal(term.text, got, ok)
		}
	}
}

func TestTextsAreOfOneTermAlone(t *testing.T) {
	for i, most := range []int{9, 7, 6} {
		written := map[string]bool{}
		for _, term := range slices.Concat(termsUpTo(1+i, most)...) {
			text := impl.TermText(term.many, term.marks)
			if written[text] {
				t.Fatal("two terms with one text", text)
			}
			written[text] = true
		}
	}
}

func TestTermTextOfOthers(t *testing.T) {
	eachNoTerm(func(many int, term []impl.Mark) {
		if got := impl.TermText(many, term); got != "" {
			t.Fatal(many, term, got)
		}
	})
}

// Promise 16.

// textSigns are all bytes that a text of a term for one or two tests may have.
const textSigns = "ab!&|()"

// eachText calls visit for all texts of at most so many bytes, of some signs.
func eachText(signs string, most int, visit func(text string)) {
	texts := []string{""}
	for range most + 1 {
		var longer []string
		for _, text := range texts {
			visit(text)
			for _, sign := range []byte(signs) {
				longer = append(longer, text+string(sign))
			}
		}
		texts = longer
	}
}

func TestJustTextsOfTermsAreRead(t *testing.T) {
	const most = 6
	for many := 1; many <= 2; many++ {
		// Each mark writes one byte at least, so that no longer term has so short a text.
		terms := map[string][]impl.Mark{}
		for _, term := range slices.Concat(termsUpTo(many, most)...) {
			terms[term.text] = term.marks
		}
		eachText(textSigns, most, func(text string) {
			want, written := terms[text]
			if got, ok := impl.ReadTerm(many, text); ok != written || !slices.Equal(got, want) {
				t.Fatal(many, text, got, ok)
			}
		})
	}
}

func TestReadTextsAreCanonical(t *testing.T) {
	for turn, term := range manyTerms() {
		if turn%97 != 0 {
			continue
		}
		for _, text := range textsNear(term.text, textSigns+"e ") {
			got, ok := impl.ReadTerm(term.many, text)
			if ok && (!impl.TermOk(term.many, got) || impl.TermText(term.many, got) != text) || !ok && len(got) != 0 {
				t.Fatal(term.many, text, got, ok)
			}
		}
	}
}

func TestTextsInBracketsAreRefused(t *testing.T) {
	eachTerm(func(many int, term []impl.Mark, text string) {
		for _, refused := range []string{"(" + text + ")", "((" + text + "))", "(" + text, text + ")", text + " ", " " + text, text + "\n", text + "\x00", text + text} {
			if got, ok := impl.ReadTerm(many, refused); ok || len(got) != 0 {
				t.Fatal(many, refused, got, ok)
			}
		}
	})
}

func TestTextsThatCouldBindInTwoWays(t *testing.T) {
	for _, text := range []struct{ text, signs string }{
		{"a|b&c", "abc&|"}, {"a&b|c", "ab&c|"}, {"!a&b", "a!b&"}, {"!a|b", "a!b|"},
		{"a&b&c", "ab&c&"}, {"a|b|c", "ab|c|"}, {"a|b&c|d", "abc&|d|"}, {"a&b|c&d", "ab&cd&|"}, {"a&!b&c|!!d", "ab!&c&d!!|"},
	} {
		if got, ok := impl.ReadTerm(4, text.text); !ok || !slices.Equal(got, marksOf(text.signs)) {
			t.Fatal(text.text, got, ok)
		}
	}
}

func TestBracketsThatAreNotNeededAreRefused(t *testing.T) {
	for _, text := range []string{
		"(a)", "((a))", "!(a)", "(!a)", "!(!a)", "(!a)&b", "a&(!b)", "a|(!b)", "(a)&b", "a|(b)",
		"(a&b)&c", "(a|b)|c", "(a&b)|c", "a|(b&c)", "(a&b)|(c&d)", "((a|b))&c", "a&((b|c))", "!((a|b))", "(a|b)", "(a&b)", "(!(a|b))",
	} {
		if got, ok := impl.ReadTerm(5, text); ok || len(got) != 0 {
			t.Fatal(text, got, ok)
		}
	}
}

func TestTextsOfNoTermsAreRefused(t *testing.T) {
	for _, text := range []string{
		"", " ", "()", "(", ")", "!", "&", "|", "!!", "&a", "|a", "a&", "a|", "a!", "a&&b", "a||b", "a&|b", "ab", "a b", "a & b", "a(b)", "(a)b", "!a!", "!)", "(!",
		"a|(b|c", "a|b|c)", "a|(b|c)|", "a&()", "(a|)&b", "(|a)&b", "a&(b|c)d", "A", "f", "`", "z", "a&f", "1", "aANDb", "a∧b", "\xe1", "a\xff", "\x80", "a\r", "\ta", "a\u0300",
	} {
		for many := 1; many <= 5; many++ {
			if got, ok := impl.ReadTerm(many, text); ok || len(got) != 0 {
				t.Fatal(many, text, got, ok)
			}
		}
	}
}

func TestTextsOfLettersWithoutATestAreRefused(t *testing.T) {
	for many := 1; many <= 5; many++ {
		for letter := range 256 {
			text := string([]byte{byte(letter)})
			at := letter - 'a'
			ok := at >= 0 && at < many
			for _, with := range []string{text, "!" + text, "a&" + text, text + "|a"} {
				if _, got := impl.ReadTerm(many, with); got != ok {
					t.Fatal(many, with, got)
				}
			}
		}
	}
}

func TestTextsForNumbersOfTestsThatMayNotBeAreRefused(t *testing.T) {
	for _, many := range badMany() {
		for _, text := range []string{"", "a", "e", "f", "!a", "a&a", "(a|b)&!c"} {
			if got, ok := impl.ReadTerm(many, text); ok || len(got) != 0 {
				t.Fatal(many, text, got, ok)
			}
		}
	}
}

func TestTextsOfTooManyMarksAreRefused(t *testing.T) {
	for marks := 1; marks <= 90; marks++ {
		for _, text := range []string{strings.Repeat("!", marks-1) + "a", strings.Repeat("!", (marks-1)%2) + "a" + strings.Repeat("&a", (marks-1)/2)} {
			got, ok := impl.ReadTerm(1, text)
			if ok != (marks <= 13) || ok && len(got) != marks || !ok && len(got) != 0 {
				t.Fatal(text, got, ok)
			}
		}
	}
}

func TestTextsOfEightyBytesAndOfMoreAreRefused(t *testing.T) {
	for _, size := range []int{79, 80, 81, 82, 1000, 1 << 20} {
		half := size / 2
		for _, text := range []string{
			strings.Repeat("(", size), strings.Repeat(")", size), strings.Repeat("!", size), strings.Repeat("a", size), strings.Repeat("a&", half), strings.Repeat("!(", half),
			strings.Repeat("(", half) + "a" + strings.Repeat(")", half),
			strings.Repeat("a|", half) + "a", strings.Repeat("!", size-1) + "a", "a" + strings.Repeat(" ", size-1), strings.Repeat("\x00", size), strings.Repeat("\xff", size),
		} {
			if got, ok := impl.ReadTerm(5, text); ok || len(got) != 0 {
				t.Fatal(size, text[:20], got, ok)
			}
		}
	}
}

// General rules: results are new memory, arguments are never written to, and no call leaves anything behind for the next one.

func TestResultsOfTermsAreNewMemory(t *testing.T) {
	want := marksOf("ab|c!&")
	room := append(slices.Clone(want), nots(5)...)
	roomBefore := slices.Clone(room)
	term := room[:len(want)]
	for _, result := range []func() []impl.Mark{
		func() []impl.Mark { return impl.DualTerm(3, term) },
		func() []impl.Mark { read, _ := impl.ReadTerm(3, "(a|b)&!c"); return read },
	} {
		first, second := result(), result()
		before := slices.Clone(second)
		first = first[:cap(first)]
		for i := range first {
			first[i] = impl.Mark{Kind: 7, At: 7}
		}
		if !slices.Equal(second, before) || !slices.Equal(result(), before) || !slices.Equal(room, roomBefore) {
			t.Fatal(second, before, room)
		}
	}
}

func TestArgumentsOfTermsAreNotWrittenTo(t *testing.T) {
	eachTerm(func(many int, term []impl.Mark, _ string) {
		before := slices.Clone(term)
		ok, letters, once, text := impl.TermOk(many, term), impl.LettersOf(many, term), impl.OnceOk(many, term), impl.TermText(many, term)
		impl.DualTerm(many, term)
		if !slices.Equal(term, before) {
			t.Fatal(many, before, term)
		}
		if ok != impl.TermOk(many, term) || letters != impl.LettersOf(many, term) || once != impl.OnceOk(many, term) || text != impl.TermText(many, term) {
			t.Fatal("called again", many, term)
		}
	})
}
