package tests

import (
	"strings"

	"loop.example/checksinorder/impl"
)

// text is the text of a way from where something is known on.
func (w *way) text(truth []bool, known []int) string {
	if w == nil {
		value := forcedIn(truth, known)
		return "01"[value : value+1]
	}
	behindNo, behindYes := w.no.text(truth, with(known, w.ask, 0)), w.yes.text(truth, with(known, w.ask, 1))
	return "abcde"[w.ask:w.ask+1] + "(" + behindNo + "," + behindYes + ")"
}

// text is the text of the plan.
func (p planned) text() string {
	return p.way.text(p.truth, nothingKnown(len(p.tests)))
}

// stops counts the places at which a way stops with a value.
func (w *way) stops(truth []bool, known []int, value int) int {
	if w != nil {
		return w.no.stops(truth, with(known, w.ask, 0), value) + w.yes.stops(truth, with(known, w.ask, 1), value)
	}
	if forcedIn(truth, known) == value {
		return 1
	}
	return 0
}

// waysByText has all ways to ask for a term, by their texts.
func waysByText(many int, term []impl.Mark) map[string]*way {
	truth, ways := truthOf(many, term), map[string]*way{}
	for _, w := range waysIn(truth, nothingKnown(many)) {
		ways[w.text(truth, nothingKnown(many))] = w
	}
	return ways
}

// treeTexts lists all texts of so many choices, each of any of so many tests, that stop with either value.
func treeTexts(many, choices int) []string {
	if choices == 0 {
		return []string{"0", "1"}
	}
	var list []string
	for ahead := range choices {
		behindYes := treeTexts(many, choices-1-ahead)
		for _, no := range treeTexts(many, ahead) {
			for _, yes := range behindYes {
				for at := range many {
					list = append(list, "abcde"[at:at+1]+"("+no+","+yes+")")
				}
			}
		}
	}
	return list
}

// otherValues is a text with 1 for each 0, and 0 for each 1.
func otherValues(text string) string {
	return strings.NewReplacer("0", "1", "1", "0").Replace(text)
}

// endOfPart is the place behind the choice, or the value, that begins at a place of a text.
func endOfPart(text string, start int) int {
	if strings.IndexByte("01", text[start]) >= 0 {
		return start + 1
	}
	open := 0
	for i := start + 1; ; i++ {
		switch text[i] {
		case '(':
			open++
		case ')':
			open--
		}
		if open == 0 {
			return i + 1
		}
	}
}

// eachWrongTree calls visit for texts in which just one choice or value of the text of a plan is exchanged for one that may not stand there: a choice for a value, and a value for the other one and for a choice.
func eachWrongTree(text string, visit func(wrong string)) {
	for start, sign := range []byte(text) {
		if strings.IndexByte("(,)", sign) >= 0 {
			continue
		}
		put := func(other string) { visit(text[:start] + other + text[endOfPart(text, start):]) }
		switch sign {
		case '0', '1':
			put(otherValues(string(sign)))
			for _, letter := range "abcde" {
				for _, values := range []string{"(0,0)", "(0,1)", "(1,0)", "(1,1)"} {
					put(string(letter) + values)
				}
			}
		default:
			put("0")
			put("1")
		}
	}
}
