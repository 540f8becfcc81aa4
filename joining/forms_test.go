package joining_test

import (
	"math/rand"
	"slices"
	"testing"

	"calamus/api"
	"calamus/joining"
	"calamus/ucd"
)

// sameForms holds Forms against the chapter's words.
func sameForms(t *testing.T, l []rune) {
	t.Helper()
	if got, want := joining.Forms(l), formsByWords(l); !slices.Equal(got, want) {
		t.Fatalf("Forms(%X) = %s, want %s", l, letters(got), letters(want))
	}
}

// P15.1: by hand; s, i, m and f are isolated, initial, medial and final, - is none.
func TestFormsByHand(t *testing.T) {
	for text, want := range map[string]string{
		"": "",
		// The chapter's.
		"\u0628\u0628\u0628": "imf", "\u0628\u064e\u0627\u0628": "i-fs", "a\u0628": "-s", "\u0628\u0640\u0628": "i-f",
		// One of each type, alone.
		"\u0627": "s", "\u0628": "s", "\u0640": "-", "\u200d": "-", "\u064e": "-", "a": "-",
		// Two.
		"\u0628\u0628": "if", "\u0628\u0627": "if", "\u0627\u0628": "ss", "\u0627\u0627": "ss",
		"\u0628\u0640": "i-", "\u0640\u0628": "-f", "\u0640\u0627": "-f", "\u0627\u0640": "s-", "\u0640\u0640": "--",
		"\u0628a": "s-", "\u0627a": "s-", "a\u0627": "-s", "\u0640a": "--",
		// Three.
		"\u0628\u0627\u0628": "ifs", "\u0627\u0628\u0627": "sif", "\u0628\u0628\u0627": "imf", "\u0627\u0628\u0628": "sif",
		"\u0640\u0628\u0640": "-m-", "\u200d\u0628\u200d": "-m-", "\u0640\u0627\u0640": "-f-", "\u0628\u0627\u0627": "ifs",
		"\u0628a\u0628": "s-s", "\u0628 \u0628": "s-s", "\u0628\n\u0628": "s-s",
		// What is passed: alone, many, at either end, of both kinds of it.
		"\u064e\u0628\u0628": "-if", "\u0628\u0628\u064e": "if-", "\u0628\u064e\u0651\u0628": "i--f", "\u0628\u064e": "s-", "\u064e\u0628": "-s",
		"\u0628\u200b\u0628": "i-f", "\u0628\u00ad\u0628": "i-f", "\u0628\u2060\ufeff\u202b\u0628": "i---f", "\u0628\u0301\u0627": "i-f",
		"\u0628\u064e\u200d\u064e\u0628": "i---f", "\u0628\u064ea\u064e\u0628": "s---s", "\u064e\u064e": "--",
		// One that parts, of the type none: not joiners, isolates, letters that don't join.
		"\u0628\u200c\u0628": "s-s", "\u0628\u2066\u0628": "s-s", "\u0628\u0621\u0628": "s-s", "\u0628\u0674\u0628": "s-s",
		// Words.
		"\u0627\u0644\u0633\u0644\u0627\u0645": "simmfs", "\u0643\u062a\u0627\u0628": "imfs", "\u0645\u064e\u0631\u0652\u062d\u064e\u0628\u064b\u0627": "i-f-i-m-f",
		"\u0648\u0631\u062f": "sss", "\u0645\u0640\u0640\u0627": "i--f", "\u0647\u200d \u0628": "i--s",
	} {
		if got := letters(joining.Forms([]rune(text))); got != want {
			t.Errorf("%+q: %s, want %s", text, got, want)
		}
		sameForms(t, []rune(text))
	}
}

// P15.1: each character, alone, and between any two.
func TestFormsOfEveryCharacter(t *testing.T) {
	// By type (none, right, dual, cause, pass), with beh on neither side, ahead, behind, and both.
	want := [5]string{"----", "sfsf", "sfim", "----", "----"}
	for r := rune(-3); r < 0x110003; r++ {
		of := ucd.Joining(r)
		got := [4][]uint8{joining.Forms([]rune{r}), joining.Forms([]rune{0x628, r}), joining.Forms([]rune{r, 0x628}), joining.Forms([]rune{0x628, r, 0x628})}
		if letters([]uint8{got[0][0], got[1][1], got[2][0], got[3][1]}) != want[of] {
			t.Fatalf("%X, of the type %d: %d, want %s", r, of, got, want[of])
		}
		sameForms(t, []rune{0x627, r, 0x64E, 0x627})
		sameForms(t, []rune{0x628, 0x64E, r, 0x640})
		sameForms(t, []rune{'a', r, r, r, 'a'})
	}
}

// P15.1: no runes of Unicode's are of the type none.
func TestFormsOfNoCharacters(t *testing.T) {
	for _, r := range []rune{-1, -0x628, -0x80000000, 0xD800, 0x110000, 0x1000628, 0x7FFFFFFF} {
		if got := letters(joining.Forms([]rune{r, 0x628, 0x628, r, 0x628, r, r})); got != "-if-s--" {
			t.Errorf("%X: %s", r, got)
		}
	}
}

// P15.1: every short text of one character of each type.
func TestFormsEvery(t *testing.T) {
	each := func(l []rune) { sameForms(t, l) }
	everyText([]rune(one), 7, each)
	everyText([]rune("\u0628\u064e\u0627"), 10, each)
}

// P15.1: texts of all kinds.
func TestFormsAnywhere(t *testing.T) {
	someTexts(151, 50000, 30, func(_ *rand.Rand, l []rune) { sameForms(t, l) })
	someTexts(152, 500, 600, func(_ *rand.Rand, l []rune) { sameForms(t, l) })
}

// P15.1: no characters, told in either way.
func TestNothing(t *testing.T) {
	for _, l := range [][]rune{nil, {}, []rune("\u0628\u0628")[:0]} {
		if got := joining.Forms(l); len(got) > 0 {
			t.Error(got)
		}
	}
}

// P15.1: long texts: none looks over all that are passed, again and again.
func TestFormsLong(t *testing.T) {
	const n = api.MaxText / 8
	many := func(s string) []rune { return slices.Repeat([]rune(s), n) }
	for _, x := range []struct {
		name             string
		l                []rune
		first, then, end uint8
	}{
		{"dual", many("\u0628"), api.Initial, api.Medial, api.Final},
		{"right", many("\u0627"), api.Isolated, api.Isolated, api.Isolated},
		{"cause", many("\u0640"), api.FormNone, api.FormNone, api.FormNone},
		{"passed", many("\u064e"), api.FormNone, api.FormNone, api.FormNone},
		{"none", many("a"), api.FormNone, api.FormNone, api.FormNone},
		{"passed in between", slices.Concat([]rune{0x628}, many("\u064e"), []rune{0x627}), api.Initial, api.FormNone, api.Final},
		{"passed ahead", append(many("\u064e"), 0x628), api.FormNone, api.FormNone, api.Isolated},
		{"passed behind", append([]rune{0x628}, many("\u064e")...), api.Isolated, api.FormNone, api.FormNone},
	} {
		got := joining.Forms(x.l)
		want := slices.Repeat([]uint8{x.then}, len(x.l))
		want[0], want[len(want)-1] = x.first, x.end
		if !slices.Equal(got, want) {
			t.Errorf("%s: %d forms of %d, or other ones", x.name, len(got), len(x.l))
		}
	}
}
