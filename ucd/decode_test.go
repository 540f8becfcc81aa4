package ucd_test

import (
	"bytes"
	"math/rand"
	"slices"
	"testing"

	"calamus/api"
	"calamus/ucd"
)

// encoded tells the bytes of a character, nothing of a rune that is none.
func encoded(r rune) []byte {
	tail := func(shift int) byte { return byte(0x80 | r>>shift&0x3F) }
	switch {
	case r < 0 || r > 0x10FFFF || r >= 0xD800 && r <= 0xDFFF:
		return nil
	case r < 0x80:
		return []byte{byte(r)}
	case r < 0x800:
		return []byte{byte(0xC0 | r>>6), tail(0)}
	case r < 0x10000:
		return []byte{byte(0xE0 | r>>12), tail(6), tail(0)}
	}
	return []byte{byte(0xF0 | r>>18), tail(12), tail(6), tail(0)}
}

// part tells the character whose bytes stand ahead in b, and how many they are;
// 0 if there is none.
func part(b []byte) (rune, int) {
	for n := 1; n <= 4 && n <= len(b); n++ {
		r := rune(b[0])
		if n > 1 {
			r &= 0x7F >> n
		}
		for _, c := range b[1:n] {
			r = r<<6 | rune(c&0x3F)
		}
		if bytes.Equal(encoded(r), b[:n]) {
			return r, n
		}
	}
	return 0, 0
}

// decoded tells what Decode has to answer of bytes that are within the limit.
func decoded(b []byte) ([]rune, api.Errno, int) {
	var text []rune
	for at := 0; at < len(b); {
		r, n := part(b[at:])
		if n == 0 {
			return nil, api.ErrEncoding, at
		}
		text, at = append(text, r), at+n
	}
	return text, api.OK, 0
}

func sameText(t *testing.T, b []byte) {
	t.Helper()
	want, wrong, place := decoded(b)
	text, e, at := ucd.Decode(b)
	if !slices.Equal(text, want) || e != wrong || at != place {
		t.Fatalf("Decode(% X) = %X %d %d, want %X %d %d", b, text, e, at, want, wrong, place)
	}
}

// P2.1, by hand.
func TestDecodeByHand(t *testing.T) {
	for _, x := range []struct {
		bytes string
		text  []rune
		e     api.Errno
		place int
	}{
		{"", nil, api.OK, 0},
		{"a", []rune{0x61}, api.OK, 0},
		{"\xC3\xA9a", []rune{0xE9, 0x61}, api.OK, 0},
		{"\x00\x7F", []rune{0, 0x7F}, api.OK, 0},
		{"\xC2\x80\xDF\xBF", []rune{0x80, 0x7FF}, api.OK, 0},
		{"\xE0\xA0\x80\xEF\xBF\xBF", []rune{0x800, 0xFFFF}, api.OK, 0},
		{"\xED\x9F\xBF\xEE\x80\x80", []rune{0xD7FF, 0xE000}, api.OK, 0},
		{"\xF0\x90\x80\x80\xF4\x8F\xBF\xBF", []rune{0x10000, 0x10FFFF}, api.OK, 0},
		{"\xEF\xBF\xBD", []rune{0xFFFD}, api.OK, 0}, // what stands for a fault elsewhere is a character here
		{"\xEF\xBB\xBFa", []rune{0xFEFF, 0x61}, api.OK, 0},
		// A byte that goes on, or begins nothing.
		{"\x80", nil, api.ErrEncoding, 0},
		{"ab\xBF", nil, api.ErrEncoding, 2},
		{"\xFF", nil, api.ErrEncoding, 0},
		{"\xC3\xA9\xFE", nil, api.ErrEncoding, 2},
		{"\xF8\x88\x80\x80\x80", nil, api.ErrEncoding, 0},
		{"\xC3\xA9\xA9", nil, api.ErrEncoding, 2},
		// A part that breaks off.
		{"a\xC3(", nil, api.ErrEncoding, 1},
		{"a\xC3", nil, api.ErrEncoding, 1},
		{"abc\xE2\x82", nil, api.ErrEncoding, 3},
		{"abc\xE2\x82a", nil, api.ErrEncoding, 3},
		{"\xF0\x9F\x98", nil, api.ErrEncoding, 0},
		{"a\xF0\x9F\x98\xC3\xA9", nil, api.ErrEncoding, 1},
		// Not the shortest form.
		{"\xC0\x80", nil, api.ErrEncoding, 0},
		{"\xC1\xBF", nil, api.ErrEncoding, 0},
		{"\xE0\x9F\xBF", nil, api.ErrEncoding, 0},
		{"\xF0\x8F\xBF\xBF", nil, api.ErrEncoding, 0},
		// No characters.
		{"a\xED\xA0\x80", nil, api.ErrEncoding, 1},
		{"\xED\xBF\xBF", nil, api.ErrEncoding, 0},
		{"\xED\xA0\x80\xED\xB0\x80", nil, api.ErrEncoding, 0},
		{"\xF4\x90\x80\x80", nil, api.ErrEncoding, 0},
		{"\xF5\x80\x80\x80", nil, api.ErrEncoding, 0},
		// Of two faults the one ahead.
		{"a\xFFb\xC3", nil, api.ErrEncoding, 1},
	} {
		text, e, place := ucd.Decode([]byte(x.bytes))
		if !slices.Equal(text, x.text) || e != x.e || place != x.place {
			t.Errorf("Decode(% X) = %X %d %d, want %X %d %d", x.bytes, text, e, place, x.text, x.e, x.place)
		}
	}
	if text, e, place := ucd.Decode(nil); len(text) != 0 || e != api.OK || place != 0 {
		t.Errorf("Decode(nil) = %X %d %d", text, e, place)
	}
}

// P2.1, and P2.5: every character, alone and all in one text.
func TestDecodeEvery(t *testing.T) {
	var all []byte
	var want []rune
	for r := rune(0); r <= 0x10FFFF; r++ {
		b := encoded(r)
		if b == nil {
			continue
		}
		all, want = append(all, b...), append(want, r)
		if text, e, place := ucd.Decode(b); len(text) != 1 || text[0] != r || e != api.OK || place != 0 {
			t.Fatalf("Decode(% X) = %X %d %d", b, text, e, place)
		}
	}
	text, e, place := ucd.Decode(all)
	if !slices.Equal(text, want) || e != api.OK || place != 0 {
		t.Fatal("all characters in one text", len(text), e, place)
	}
	if !bytes.Equal([]byte(string(text)), all) {
		t.Fatal("the bytes again")
	}
}

// P2.1: all rows of one and two bytes, and those of more that are at the edges
// of what they may be.
func TestDecodeRows(t *testing.T) {
	edges := []byte{0, 0x41, 0x7F, 0x80, 0x8F, 0x90, 0x9F, 0xA0, 0xBF, 0xC0, 0xC1, 0xC2, 0xDF, 0xE0, 0xED, 0xEF, 0xF0, 0xF4, 0xF5, 0xFF}
	for a := range 256 {
		sameText(t, []byte{byte(a)})
		for b := range 256 {
			sameText(t, []byte{byte(a), byte(b)})
			for _, c := range edges {
				sameText(t, []byte{byte(a), byte(b), c})
				if a < 0xF0 && a%16 != 0 {
					continue
				}
				for _, d := range edges {
					sameText(t, []byte{byte(a), byte(b), c, d})
				}
			}
		}
	}
}

// P2.1: texts of which some have a byte that is wrong, or too few.
func TestDecodeFaults(t *testing.T) {
	random := rand.New(rand.NewSource(1))
	for range 20000 {
		var b []byte
		for range random.Intn(20) {
			b = append(b, encoded(rune(random.Intn(1<<(1+random.Intn(21)))))...)
		}
		sameText(t, b)
		if len(b) == 0 {
			continue
		}
		sameText(t, b[:random.Intn(len(b))])
		sameText(t, b[random.Intn(len(b)):])
		b[random.Intn(len(b))] = byte(random.Intn(256))
		sameText(t, b)
	}
}

// P2.1: the limit counts characters, ahead of the first fault.
func TestDecodeLimit(t *testing.T) {
	for _, one := range []string{"a", "\xF0\x9F\x98\x80"} {
		full := bytes.Repeat([]byte(one), api.MaxText)
		for _, x := range []struct {
			more  string
			e     api.Errno
			place int
		}{
			{"\xFF", api.ErrEncoding, len(full)},
			{"\xC3", api.ErrEncoding, len(full)},
			{"\xFFa", api.ErrEncoding, len(full)},
			{one, api.ErrLimit, 0},
			{one + "\xFF", api.ErrLimit, 0},
			{"\xC3\xA9\xFF", api.ErrLimit, 0},
			{one + one + one, api.ErrLimit, 0},
		} {
			if text, e, place := ucd.Decode(append(full, x.more...)); len(text) != 0 || e != x.e || place != x.place {
				t.Errorf("a full text of % X and % X: %d characters %d %d", one, x.more, len(text), e, place)
			}
		}
		if text, e, place := ucd.Decode(full); len(text) != api.MaxText || e != api.OK || place != 0 {
			t.Errorf("a full text of % X: %d characters %d %d", one, len(text), e, place)
		}
		if text, e, place := ucd.Decode(append([]byte("a\xFF"), full...)); len(text) != 0 || e != api.ErrEncoding || place != 1 {
			t.Errorf("a fault ahead of a full text of % X: %d characters %d %d", one, len(text), e, place)
		}
	}
}

// P2.4.
func TestDecodeMemory(t *testing.T) {
	const whole = "a\u05E9\U0001F600 and what lies behind"
	given := []byte(whole)
	short := given[:7]
	text, _, _ := ucd.Decode(short)
	again, _, _ := ucd.Decode(short)
	want := []rune{0x61, 0x5E9, 0x1F600}
	if string(given) != whole {
		t.Errorf("what is handed in is changed: %q", given)
	}
	clear(given)
	if !slices.Equal(text, want) {
		t.Errorf("what is answered hangs on what was handed in: %X", text)
	}
	clear(text[:cap(text)])
	if !slices.Equal(again, want) {
		t.Errorf("two answers share their memory: %X", again)
	}
}
