package itemise_test

import (
	"math/rand"
	"slices"
	"strings"
	"testing"

	"calamus/api"
	"calamus/itemise"
	"calamus/ucd"
)

// sameScripts holds Scripts against the chapter's words.
func sameScripts(t *testing.T, l []rune) {
	t.Helper()
	if got, want := itemise.Scripts(l), scriptsByWords(l); !slices.Equal(got, want) {
		t.Fatalf("Scripts(%X) = %d, want %d", l, got, want)
	}
}

// P14.1: by hand; a digit is a script's number.
func TestScriptsByHand(t *testing.T) {
	for text, want := range map[string]string{
		"": "",
		// The chapter's.
		"a \u05d0!\u0628": "22334", "1a(\u05d0)\u0301": "222322", "!?": "00", "a\u2029!\u05d0": "2233",
		// One of each script, and what has none of its own.
		"a\u03b1\u05d0\u0628\uac00\u4e00": "253467", "a!\u05d0!\u4e00!": "223377", "a 1,\u0640\u060c": "222222",
		"\u05d0\u0591\u064b\u0628\u064b": "33344", "a\u200d\u0301!\u0301": "22222",
		// Ahead of the first own script, and without one.
		"!\u05d0a": "332", "\u0301": "0", "\u0301a": "22", "\u0301!\u0301\u0628a": "44442", "1 2\u0301": "0000", " ": "0",
		// Brackets that pair have one script, by their opening one.
		"a(\u05d0)!": "22322", "\u05d0(a)b": "33232", "(\u05d0)!a": "33332", "!(\u05d0a)!": "333233", "a(\u05d0[\u0628]!)!": "223343322",
		"a(\u05d0)\u0301\u0628)\u0301": "22322444", "(!)": "000", "(\u0301)\u05d0": "3333", "(a(\u05d0(\u0628)))": "222334322",
		// An opening one is of the script ahead; what is in between changes nothing there.
		"\u05d0(a\u03b1)": "33253", "a{\u05d0}\u2045\u0628\u2046": "2232242",
		// None that pairs: the script by now goes on.
		"a(\u05d0!": "2233", "a)\u05d0)": "2233", "a(\u05d0]!": "22333", "\u05d0)a": "332", ")a": "22", "(": "0", ")": "0",
		// One that pairs takes those put behind it.
		"a(\u05d0[\u0628)!]": "22334222", "a[\u05d0(\u0628]!)": "22334222", "a(\u05d0(\u0628))": "2233432",
		"\u0628(a(\u05d0])": "4422332",
		// 2329 and 232A are 3008 and 3009; others that look like them are not.
		"a\u2329\u05d0\u3009": "2232", "a\u3008\u05d0\u232a": "2232", "a\u2329\u05d0\u232a": "2232", "a\u27e8\u05d0\u3009": "2233",
		"a\u3008\u05d0\u2329\u0628\u3009\u232a": "2233432",
		// Mirrors that are no brackets.
		"a<\u05d0>": "2233", "a\u00ab\u05d0\u00bb": "2233", "a\u201c\u05d0\u201d": "2233",
		// Parts are gone through by themselves.
		"\u05d0\u2029!": "330", "\u05d0\n\n!a": "33022", "a\r\n\u05d0": "2203", "!\n\u05d0": "003", "a(\n\u05d0)!": "222333", "a(\u05d0\u0085)": "22330",
		"\n": "0", "\n\u0301a": "022", "(a\x1c)\u05d0": "22233", "(\u05d0)\x1d(a)\x1e[!]": "33332222000",
		// Other ends of lines end no part.
		"a\u2028!": "222", "a\v!": "222", "a\f!\t\x1f\x1b": "222222", "a(\u2028\u05d0)": "22232",
	} {
		got := digits(itemise.Scripts([]rune(text)))
		if got != want {
			t.Errorf("%+q: %s, want %s", text, got, want)
		}
		sameScripts(t, []rune(text))
	}
}

// P14.1: each character, alone, behind a letter, and ahead of one.
func TestScriptsOfEveryCharacter(t *testing.T) {
	for r := rune(-3); r < 0x110003; r++ {
		script, ends := ucd.Script(r), ucd.Class(r) == api.B
		alone, beside := script, script
		if script == api.Common || script == api.Inherited {
			alone, beside = api.Common, api.Greek
		}
		next := beside
		if ends {
			next = api.Common
		}
		if got := itemise.Scripts([]rune{r}); len(got) != 1 || got[0] != alone {
			t.Fatalf("%X alone: %d", r, got)
		}
		if got := itemise.Scripts([]rune{0x3B1, r, '!'}); !slices.Equal(got, []uint8{api.Greek, beside, next}) {
			t.Fatalf("%X behind a letter: %d", r, got)
		}
		ahead := beside
		if ends {
			ahead = api.Common
		}
		if got := itemise.Scripts([]rune{r, 0x3B1}); !slices.Equal(got, []uint8{ahead, api.Greek}) {
			t.Fatalf("%X ahead of a letter: %d", r, got)
		}
	}
}

// P14.1: all separators, by their numbers.
func TestSeparators(t *testing.T) {
	if len([]rune(separators)) != 7 {
		t.Fatal(separators)
	}
	for _, r := range separators {
		if got := digits(itemise.Scripts([]rune{'a', r, '!', r, 0x5D0})); got != "22003" {
			t.Errorf("%X: %s", r, got)
		}
	}
}

// P14.1: each bracket pairs with its own, and with no other one.
func TestBracketsOfAllKinds(t *testing.T) {
	all := []rune(brackets)
	if len(all) != 46 {
		t.Fatal(len(all))
	}
	for i, opening := range all {
		for k, closing := range all {
			want := "223"
			if i%2 == 0 && k%2 == 1 && canonical(all[i+1]) == canonical(closing) {
				want = "222"
			}
			l := []rune{'a', opening, 0x5D0, closing}
			if got := itemise.Scripts(l); digits(got[:2])+digits(got[3:]) != want || got[2] != api.Hebrew {
				t.Errorf("%X: %d", l, got)
			}
			sameScripts(t, []rune{'a', opening, 0x5D0, closing, 0x628, all[i^1], 0x3B1, all[k^1]})
		}
	}
}

// P14.1: 64 wait, and no more; one that finds no room is like no bracket.
func TestBracketsThatWait(t *testing.T) {
	for _, x := range []struct {
		name, text, want string
	}{
		{"64", "a" + strings.Repeat("(", 64) + "\u05d0" + strings.Repeat(")", 64) + "!", strings.Repeat("2", 65) + "3" + strings.Repeat("2", 65)},
		{"the first one of 64", "a[\u05d0" + strings.Repeat("(", 63) + "]!", "22" + strings.Repeat("3", 64) + "22"},
		{"the last one of 64", "\u05d0" + strings.Repeat("(", 63) + "a[\u0628]!", strings.Repeat("3", 64) + "22422"},
		{"one more", "\u05d0" + strings.Repeat("(", 64) + "a[\u0628]!", strings.Repeat("3", 65) + "22444"},
		{"one more of the same", "\u05d0" + strings.Repeat("(", 64) + "a(\u0628)!)!", strings.Repeat("3", 65) + "2243333"},
		{"one more, and room again", "\u05d0" + strings.Repeat("(", 64) + "a[)b[\u0628]!", strings.Repeat("3", 65) + "22322422"},
		{"one more, and all taken", "\u05d0{" + strings.Repeat("(", 63) + "a[}b[\u0628]!", strings.Repeat("3", 65) + "22322422"},
		{"none without room", "\u05d0" + strings.Repeat("(", 64) + "a[\u0628", strings.Repeat("3", 65) + "224"},
		{"in another part", "\u05d0" + strings.Repeat("(", 64) + "\na[\u0628]!", strings.Repeat("3", 66) + "22422"},
	} {
		l := []rune(x.text)
		if got := digits(itemise.Scripts(l)); got != x.want {
			t.Errorf("%s: %s, want %s", x.name, got, x.want)
		}
		sameScripts(t, l)
	}
	for deep := range 140 {
		l := []rune("a" + strings.Repeat("(", deep) + "\u05d0[\u0628]!" + strings.Repeat(")", deep) + "!")
		sameScripts(t, l)
		sameScripts(t, slices.Concat(l, []rune("\n!"), l))
	}
}

// P14.1: every short text of all that counts.
func TestScriptsEvery(t *testing.T) {
	each := func(l []rune) { sameScripts(t, l) }
	everyText([]rune("a\u05d0!\u0301()[]\n"), 5, each)
	everyText([]rune("a\u05d0()"), 8, each)
	everyText([]rune("\u05d0!(]\n"), 6, each)
	everyText([]rune("a\u0628\u2329\u232a\u3008\u3009"), 6, each)
}

// P14.1: texts of all kinds, and brackets in one another.
func TestScriptsAnywhere(t *testing.T) {
	someTexts(141, 50000, 30, func(_ *rand.Rand, l []rune) { sameScripts(t, l) })
	someTexts(142, 500, 600, func(_ *rand.Rand, l []rune) { sameScripts(t, l) })
}

// P14.1: texts of more characters than a paragraph may have: none looks over all
// of the rest, or back over all ahead.
func TestScriptsLong(t *testing.T) {
	const n = 1 << 20
	many := func(s string) []rune { return slices.Repeat([]rune(s), n) }
	for _, x := range []struct {
		name string
		l    []rune
		want []uint8
	}{
		{"none of its own", many("!"), slices.Repeat(numbers("0"), n)},
		{"one at the end", append(many("\u0301"), 0x4E00), slices.Repeat(numbers("7"), n+1)},
		{"one at the beginning", append([]rune{0x5D0}, many(" ")...), slices.Repeat(numbers("3"), n+1)},
		{"separators", append(many("\n"), '!', 'a'), append(slices.Repeat(numbers("0"), n), 2, 2)},
		{"opening brackets", append(many("("), 0x628), slices.Repeat(numbers("4"), n+1)},
		{"closing brackets", append([]rune(strings.Repeat("(", 65)+"\u05d0"), many("]")...), slices.Repeat(numbers("3"), n+66)},
		{"pairs", many("a(\u05d0)"), slices.Repeat(numbers("2232"), n)},
		{"parts", many("!a\n"), slices.Repeat(numbers("222"), n)},
	} {
		if got := itemise.Scripts(x.l); !slices.Equal(got, x.want) {
			t.Errorf("%s: %d scripts of %d, or other ones", x.name, len(got), len(x.l))
		}
	}
}
