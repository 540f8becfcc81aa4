package joining_test

import (
	"math/rand"
	"strings"
)

// kinds are characters by their joining types: right, dual, cause, pass, none.
var kinds = [][]rune{
	[]rune("\u0622\u0627\u062f\u0648\u06ef"), []rune("\u0620\u0628\u0633\u064a\u06ff"), []rune("\u0640\u200d"),
	[]rune("\u0300\u064b\u064e\u0670\u0711\u00ad\u200b\u200e\u200f\u202e\u2060\ufeff\U000e01ef"),
	append([]rune("a \n(\u05d0\u0621\u0674\u200c\u2066\ufe8e\u4e00"), -1, -0x80000000, 0xd800, 0x110000, 0x7fffffff),
}

// one is a character of each kind.
const one = "\u0627\u0628\u0640\u064ea"

// everyText goes through all texts of up to n out of some characters.
func everyText(of []rune, n int, each func(l []rune)) {
	each(nil)
	l := make([]rune, 0, n)
	var fill func()
	fill = func() {
		if len(l) == n {
			return
		}
		for _, r := range of {
			l = append(l, r)
			each(l)
			fill()
			l = l[:len(l)-1]
		}
	}
	fill()
}

// someText tells a text of up to that many characters, out of a few kinds, so that
// rows of one kind are long at times.
func someText(random *rand.Rand, long int) []rune {
	few := make([][]rune, 1+random.Intn(5))
	for i := range few {
		few[i] = kinds[random.Intn(len(kinds))]
	}
	l := make([]rune, random.Intn(long+1))
	for i := range l {
		of := few[random.Intn(len(few))]
		l[i] = of[random.Intn(len(of))]
	}
	return l
}

// someTexts goes through some texts of up to that many characters.
func someTexts(seed int64, n, long int, each func(random *rand.Rand, l []rune)) {
	random := rand.New(rand.NewSource(seed))
	for range n {
		each(random, someText(random, long))
	}
}

// letters tells forms, a letter each: none, isolated, initial, medial, final.
func letters(forms []uint8) string {
	var b strings.Builder
	for _, form := range forms {
		b.WriteByte("-simf?"[min(form, 5)])
	}
	return b.String()
}
