package itemise_test

import (
	"math/rand"
	"slices"
	"strings"

	"calamus/itemise"
)

// brackets are the chapter's, an opening one and the closing one that pairs with
// it, two by two.
const brackets = "()[]{}\u2045\u2046\u207d\u207e\u208d\u208e\u2308\u2309\u230a\u230b\u2329\u232a\u27e6\u27e7\u27e8\u27e9\u27ea\u27eb\u27ec\u27ed\u27ee\u27ef" +
	"\u3008\u3009\u300a\u300b\u300c\u300d\u300e\u300f\u3010\u3011\u3014\u3015\u3016\u3017\u3018\u3019\u301a\u301b"

// separators are all characters of the class B.
const separators = "\n\r\x1c\x1d\x1e\u0085\u2029"

// kinds are characters by their scripts, or by what they do.
var kinds = [][]rune{
	[]rune("a1Zz\u00aa\u1eff"), []rune("\u05d0\u0591\ufb1d"), []rune("\u0628\u0627\u0660\ufefc"), []rune("\u03b1\u0370"),
	[]rune("\u1100\uac00\ud7a3"), []rune("\u4e00\u3005\u2e80"),
	[]rune("\u0301\u0301\u064b\u200d\U000e0100\u0485"),
	append([]rune(" !1?\u0640\u060c\u3000\u2028\t\v\x1f<>"), -1, 0x110000, 0x7fffffff, -0x80000000, 0xd800),
	[]rune(separators), []rune(brackets), []rune("()[]"), []rune("(())"), []rune("\u2329\u232a\u3008\u3009"),
}

// everyText goes through all texts of up to n out of some characters.
func everyText(of []rune, n int, each func(l []rune)) {
	each(nil)
	l := make([]rune, 0, n)
	var fill func()
	fill = func() {
		if len(l) == n {
			return
		}
		for _, r := range of {
			l = append(l, r)
			each(l)
			fill()
			l = l[:len(l)-1]
		}
	}
	fill()
}

// someTexts goes through texts of up to that many characters, out of a few kinds
// each, so that brackets pair often, and scripts change.
func someTexts(seed int64, n, long int, each func(random *rand.Rand, l []rune)) {
	random := rand.New(rand.NewSource(seed))
	for range n {
		few := make([][]rune, 1+random.Intn(6))
		for i := range few {
			few[i] = kinds[random.Intn(len(kinds))]
		}
		l := make([]rune, random.Intn(long+1))
		for i := range l {
			of := few[random.Intn(len(few))]
			l[i] = of[random.Intn(len(of))]
		}
		each(random, l)
	}
}

// someLevels tells levels of that many characters, which stay the same for a while.
func someLevels(random *rand.Rand, n int) []uint8 {
	levels := make([]uint8, n)
	for i := range levels {
		if i > 0 && random.Intn(3) > 0 {
			levels[i] = levels[i-1]
		} else if levels[i] = uint8(random.Intn(3)); random.Intn(4) == 0 {
			levels[i] = uint8(random.Intn(256))
		}
	}
	return levels
}

// digits tells numbers, a digit each.
func digits(numbers []uint8) string {
	var b strings.Builder
	for _, n := range numbers {
		b.WriteByte('0' + n)
	}
	return b.String()
}

// numbers tells the numbers of digits.
func numbers(digits string) []uint8 {
	l := []uint8{}
	for _, d := range digits {
		l = append(l, uint8(d-'0'))
	}
	return l
}

// moved tells runs, each farther by that many.
func moved(runs []itemise.Run, by int) []itemise.Run {
	runs = slices.Clone(runs)
	for i := range runs {
		runs[i].From += by
		runs[i].To += by
	}
	return runs
}
