package keypad_test

import (
	"fmt"
	"math"
	"math/rand/v2"
	"slices"
	"strings"
	"testing"
	"unicode/utf8"

	"vendmeter/api"
	"vendmeter/keypad"
)

// scripts: the ten digits of each script, written out.
var scripts = []string{
	"0123456789",
	"\u0660\u0661\u0662\u0663\u0664\u0665\u0666\u0667\u0668\u0669",
	"\u06f0\u06f1\u06f2\u06f3\u06f4\u06f5\u06f6\u06f7\u06f8\u06f9",
	"\u0966\u0967\u0968\u0969\u096a\u096b\u096c\u096d\u096e\u096f",
	"\u09e6\u09e7\u09e8\u09e9\u09ea\u09eb\u09ec\u09ed\u09ee\u09ef",
	"\uff10\uff11\uff12\uff13\uff14\uff15\uff16\uff17\uff18\uff19",
}

// digitOf: the digit that each of the characters of scripts stands for.
func digitOf() map[rune]byte {
	m := map[rune]byte{}
	for _, s := range scripts {
		for i, r := range []rune(s) {
			m[r] = "0123456789"[i]
		}
	}
	return m
}

// full: as many digits as there is room for, no two neighbours the same.
var full = strings.Repeat("1234567890", api.MaxKeys/10)

// pads that may be.
func pads() []api.Pad {
	var l []api.Pad
	for n := range api.MaxKeys + 1 {
		for _, bad := range []bool{false, true} {
			l = append(l, api.Pad{Digits: full[:n], Bad: bad})
		}
	}
	for _, s := range []string{"0", "00", "9", strings.Repeat("0", api.MaxKeys), strings.Repeat("9", api.MaxKeys)} {
		l = append(l, api.Pad{Digits: s}, api.Pad{Digits: s, Bad: true})
	}
	return l
}

// others: characters that are neither digits nor have a meaning of their own.
var others = []rune{
	math.MinInt32, math.MinInt32 + 0x30, math.MinInt32 + 0xff10, -0x30, -1, 0, 1, '\t', '\n', '\r', 0x1f, '!', '"', '$', ')', '+', ',', '.', '/',
	':', ';', 'A', 'x', '~', 0x7f, 0x80, 0x9f, 0xa1, 0xad, 0xb2, 0xb9, 0x130, 0x2010, 0x2013, 0x2014, 0x2007, 0x2009, 0x200b, 0x202f, 0x2212, 0x3000,
	0x65f, 0x66a, 0x6ef, 0x6fa, 0x965, 0x970, 0x9e5, 0x9f0, 0xa66, 0x7c0, 0xe50, 0x2070, 0x2460, 0xff0a, 0xff03, 0xff0d, 0xff0f, 0xff1a, 0x1d7ce,
	0xd800, 0xdfff, 0xfeff, 0xfffd, 0xfffe, 0xffff, 0x10000, 0x10030, 0x10ffff, 0x110000, 0x110030, math.MaxInt32 - 1, math.MaxInt32,
}

// keys of all kinds.
func keys() []rune {
	l := append([]rune{' ', '-', 0xa0, '*', '#'}, others...)
	for _, s := range scripts {
		l = append(l, []rune(s)...)
	}
	return l
}

// press a key that must be taken.
func press(t *testing.T, p api.Pad, r rune) (api.Pad, []api.Entry) {
	t.Helper()
	q, l, e := keypad.Press(p, r)
	if e != api.OK {
		t.Fatalf("Press(%+v, %#x): %v", p, r, e)
	}
	return q, l
}

// still: does the key lead to this pad, and end no entry?
func still(t *testing.T, p api.Pad, r rune, want api.Pad) {
	t.Helper()
	if q, l := press(t, p, r); q != want || len(l) != 0 {
		t.Errorf("Press(%+v, %#x): %+v %v, want %+v and no entry", p, r, q, l, want)
	}
}

// P5.1

// wrongDigits: what the Digits of no pad are.
var wrongDigits = []string{
	full + "1", full + full, full + "x", "x" + full, strings.Repeat("0", api.MaxKeys+1), strings.Repeat("7", 5000),
	strings.Repeat("x", api.MaxKeys), strings.Repeat(" ", api.MaxKeys+1),
	"x", "-", "-1", "+1", "*", "#", " ", "1 ", " 1", "1-2", "1.2", "12x", "1x2", "x12", "/", ":", "\x00", "1\x00", "\n", "1\n",
	full[1:] + "x", full[1:] + "\xff", "x" + full[1:], "\x00" + full[1:],
	"\u0664", "1\u0662", "\u0662" + "1", strings.Repeat("\u0661", api.MaxKeys/2), strings.Repeat("\u0661", api.MaxKeys),
	"\uff10", "\u0966", "\u00a0", "\ufffd", "\xff", "1\xff", "\xff1", "\xd9", "\xe0\xa5", "\xed\xa0\x80", "\xf0\x90\x80\xb0", "\xc0\xb0",
}

func TestPadsThatMayNotBe(t *testing.T) {
	for _, s := range wrongDigits {
		for _, p := range []api.Pad{{Digits: s}, {Digits: s, Bad: true}} {
			for _, r := range keys() {
				if q, l, e := keypad.Press(p, r); e != api.ErrState || q != (api.Pad{}) || len(l) != 0 {
					t.Errorf("Press on %+q, key %#x: %+v %v %v, want ErrState and nothing else", s, r, q, l, e)
				}
			}
		}
	}
}

func TestPadsThatMayBe(t *testing.T) {
	for _, p := range pads() {
		for _, r := range keys() {
			if _, _, e := keypad.Press(p, r); e != api.OK {
				t.Errorf("Press(%+v, %#x): %v", p, r, e)
			}
		}
	}
}

// TestEveryByteOfAPad: at each place, digits and nothing else.
func TestEveryByteOfAPad(t *testing.T) {
	for n := 1; n <= api.MaxKeys; n++ {
		for at := range n {
			for b := range 256 {
				s := []byte(full[:n])
				s[at] = byte(b)
				want := api.ErrState
				if b >= '0' && b <= '9' {
					want = api.OK
				}
				if _, _, e := keypad.Press(api.Pad{Digits: string(s)}, '1'); e != want {
					t.Fatalf("Press on %q: %v, want %v", s, e, want)
				}
			}
		}
	}
}

// P5.2

func TestDigit(t *testing.T) {
	for _, p := range pads() {
		for _, script := range scripts {
			for i, r := range []rune(script) {
				want := api.Pad{Digits: p.Digits, Bad: true}
				if len(p.Digits) < api.MaxKeys {
					want = api.Pad{Digits: p.Digits + "0123456789"[i:i+1], Bad: p.Bad}
				}
				still(t, p, r, want)
			}
		}
	}
}

// TestNoRoom: the last digit that has room, and the first that has none.
func TestNoRoom(t *testing.T) {
	last := api.Pad{Digits: full[1:]}
	still(t, last, '5', api.Pad{Digits: full[1:] + "5"})
	still(t, api.Pad{Digits: full}, '5', api.Pad{Digits: full, Bad: true})
	still(t, api.Pad{Digits: full}, 0x665, api.Pad{Digits: full, Bad: true})
	still(t, api.Pad{Digits: full, Bad: true}, '5', api.Pad{Digits: full, Bad: true})
	// What had no room is no longer there to be taken back, and Bad stays.
	still(t, api.Pad{Digits: full, Bad: true}, '*', api.Pad{Digits: full[:api.MaxKeys-1], Bad: true})
}

func TestNothing(t *testing.T) {
	for _, p := range pads() {
		for _, r := range []rune{0x20, 0x2d, 0xa0} {
			still(t, p, r, p)
		}
	}
}

func TestTakeBack(t *testing.T) {
	for _, p := range pads() {
		want := p
		if n := len(p.Digits); n > 0 {
			want.Digits = p.Digits[:n-1]
		}
		still(t, p, '*', want)
	}
}

func TestEnd(t *testing.T) {
	for _, p := range pads() {
		var want []api.Entry
		if p.Bad {
			want = []api.Entry{{Text: "", Code: api.ErrForm}}
		} else if p.Digits != "" {
			want = []api.Entry{{Text: p.Digits, Code: api.OK}}
		}
		if q, l := press(t, p, '#'); q != (api.Pad{}) || !slices.Equal(l, want) {
			t.Errorf("Press(%+v, '#'): %+v %v, want an empty pad and %v", p, q, l, want)
		}
	}
}

func TestOthers(t *testing.T) {
	for _, p := range pads() {
		for _, r := range others {
			still(t, p, r, api.Pad{Digits: p.Digits, Bad: true})
		}
	}
}

// TestEveryCharacter: all of them, and numbers beyond and below.
func TestEveryCharacter(t *testing.T) {
	digits := digitOf()
	if len(digits) != 60 {
		t.Fatalf("%d digits are written out", len(digits))
	}
	for r := rune(-0x20000); r < utf8.MaxRune+0x20000; r++ {
		if r == '#' {
			continue
		}
		want := api.Pad{Digits: "27"}
		if d, ok := digits[r]; ok {
			want.Digits += string(d)
		} else if r == '*' {
			want.Digits = "2"
		} else if r != ' ' && r != '-' && r != 0xa0 {
			want.Bad = true
		}
		still(t, api.Pad{Digits: "27"}, r, want)
		if t.Failed() { // a million of them would tell no more
			return
		}
	}
}

// TestEntriesAreNew: what is done to one answer is not seen in another.
func TestEntriesAreNew(t *testing.T) {
	for _, p := range []api.Pad{{Digits: "12"}, {Bad: true}} {
		_, one := press(t, p, '#')
		_, other := press(t, p, '#')
		want := other[0]
		one[0] = api.Entry{Text: "x", Code: api.ErrFull}
		one = append(one[:1], api.Entry{Text: "y"})
		if other[0] != want || len(other) != 1 {
			t.Errorf("%+v: %v behind a change of %v", p, other, one)
		}
		if _, third := press(t, p, '#'); !slices.Equal(third, []api.Entry{want}) {
			t.Errorf("%+v: %v, want %v", p, third, want)
		}
	}
}

// P5.3

// bad stands among texts of entries for one that is not in form.
const bad = "bad"

// said: entries with these texts.
func said(texts ...string) []api.Entry {
	var l []api.Entry
	for _, s := range texts {
		if s == bad {
			l = append(l, api.Entry{Code: api.ErrForm})
		} else {
			l = append(l, api.Entry{Text: s, Code: api.OK})
		}
	}
	return l
}

func TestKeys(t *testing.T) {
	for _, c := range []struct {
		text string
		want []api.Entry
		pad  api.Pad
	}{
		{"", nil, api.Pad{}},
		{"12*3#", said("13"), api.Pad{}},
		{"1x#2", said(bad), api.Pad{Digits: "2"}},
		{"\u0664\u0662#", said("42"), api.Pad{}},
		{"\u0664\u0662", nil, api.Pad{Digits: "42"}},
		{"\u0661\u06f2\u0969\u09ea\uff155#", said("123455"), api.Pad{}},
		{"#", nil, api.Pad{}},
		{"#*#", nil, api.Pad{}},
		{"###", nil, api.Pad{}},
		{"*", nil, api.Pad{}},
		{"***1#", said("1"), api.Pad{}},
		{"1*#", nil, api.Pad{}},
		{"1*2*#3", nil, api.Pad{Digits: "3"}},
		{"12***345#", said("345"), api.Pad{}},
		{"1#2#3", said("1", "2"), api.Pad{Digits: "3"}},
		{"2#1#2#", said("2", "1", "2"), api.Pad{}},
		{"1##2#", said("1", "2"), api.Pad{}},
		{"00#0#", said("00", "0"), api.Pad{}},
		{"1 - 2\u00a0#", said("12"), api.Pad{}},
		{"0000-0013-3322-1418-6663#", said("00000013332214186663"), api.Pad{}},
		{" -\u00a0#", nil, api.Pad{}},
		{"x", nil, api.Pad{Bad: true}},
		{"x#", said(bad), api.Pad{}},
		{"x*#", said(bad), api.Pad{}},
		{"1x2*3", nil, api.Pad{Digits: "13", Bad: true}},
		{"1x*#", said(bad), api.Pad{}},
		{"x##1#", said(bad, "1"), api.Pad{}},
		{"1#x#2#y#", said("1", bad, "2", bad), api.Pad{}},
		{"+1#", said(bad), api.Pad{}},
		{"1\n#", said(bad), api.Pad{}},
		{"1\x00#", said(bad), api.Pad{}},
		{"\ufeff1#", said(bad), api.Pad{}},
		{full, nil, api.Pad{Digits: full}},
		{full + "#", said(full), api.Pad{}},
		{full + "1", nil, api.Pad{Digits: full, Bad: true}},
		{full + "1#", said(bad), api.Pad{}},
		{full + "*1#", said(full[:api.MaxKeys-1] + "1"), api.Pad{}},
		{full + "1*#", said(bad), api.Pad{}},
		{full + "1#" + full + "#", said(bad, full), api.Pad{}},
		{full + full, nil, api.Pad{Digits: full, Bad: true}},
		{full + " - \u00a0#", said(full), api.Pad{}},
	} {
		keyed(t, c.text, c.want, c.pad)
	}
}

func keyed(t *testing.T, text string, want []api.Entry, pad api.Pad) {
	t.Helper()
	if l, p, e := keypad.Keys(text); e != api.OK || p != pad || !slices.Equal(l, want) {
		t.Errorf("Keys(%+q): %+v %+v %v, want %+v %+v", text, l, p, e, want, pad)
	}
}

// torn: bytes that belong to no character.
var torn = []string{
	"\x80", "\xb0", "\xa0", "\xad", "\xbf", "\xc0", "\xc0\xb0", "\xc0\xa0", "\xc2", "\xd9", "\xdb", "\xe0", "\xe0\xa5", "\xe0\xa7", "\xe0\x80\xb1", "\xef", "\xef\xbc",
	"\xed\xa0\x80", "\xed\xbf\xbf", "\xf0\x80\x80\xb1", "\xf0\x9d\x9f", "\xf4\x90\x80\x80", "\xf8\x88\x80\x80\x80", "\xfe", "\xff", "\xff\xff",
}

func TestKeysOfTornCharacters(t *testing.T) {
	for _, s := range append([]string{"\ufffd"}, torn...) {
		keyed(t, s, nil, api.Pad{Bad: true})
		keyed(t, "1"+s, nil, api.Pad{Digits: "1", Bad: true})
		// The keys behind such a byte are keys as ever.
		keyed(t, s+"2", nil, api.Pad{Digits: "2", Bad: true})
		keyed(t, "1"+s+"23*#4", said(bad), api.Pad{Digits: "4"})
		keyed(t, s+"\u0664", nil, api.Pad{Digits: "4", Bad: true})
		keyed(t, "1#"+s+"#2#", said("1", bad, "2"), api.Pad{})
	}
}

// TestKeysOfOneByte: each byte alone.
func TestKeysOfOneByte(t *testing.T) {
	for b := range 256 {
		want := api.Pad{Digits: "1", Bad: true}
		switch {
		case b >= '0' && b <= '9':
			want = api.Pad{Digits: "1" + string(rune(b))}
		case b == ' ' || b == '-':
			want = api.Pad{Digits: "1"}
		case b == '*':
			want = api.Pad{}
		case b == '#':
			keyed(t, "1#", said("1"), api.Pad{})
			continue
		}
		keyed(t, "1"+string([]byte{byte(b)}), nil, want)
	}
}

func TestKeysSize(t *testing.T) {
	for _, c := range []struct {
		text string
		e    api.Errno
	}{
		{strings.Repeat("1", api.MaxTyped), api.OK},
		{strings.Repeat("1", api.MaxTyped+1), api.ErrSize},
		{strings.Repeat(" ", api.MaxTyped), api.OK},
		{strings.Repeat(" ", api.MaxTyped+1), api.ErrSize},
		{strings.Repeat("#", api.MaxTyped), api.OK},
		{strings.Repeat("#", api.MaxTyped+1), api.ErrSize},
		{strings.Repeat("x", api.MaxTyped+1), api.ErrSize},
		{strings.Repeat("1#", api.MaxTyped), api.ErrSize},
		// It is bytes that are counted, not characters.
		{strings.Repeat("\u0661", api.MaxTyped/2), api.OK},
		{strings.Repeat("\u0661", api.MaxTyped/2) + "1", api.ErrSize},
		{strings.Repeat("\u0661", api.MaxTyped/2+1), api.ErrSize},
		{strings.Repeat("\uff11", api.MaxTyped/3) + "11", api.OK},
		{strings.Repeat("\uff11", api.MaxTyped/3+1), api.ErrSize},
		{strings.Repeat("\xff", api.MaxTyped), api.OK},
		{strings.Repeat("\xff", api.MaxTyped+1), api.ErrSize},
		{strings.Repeat("12#", 100000), api.ErrSize},
	} {
		l, p, e := keypad.Keys(c.text)
		if e != c.e {
			t.Errorf("%d bytes of %+q: %v, want %v", len(c.text), c.text[:3], e, c.e)
		}
		if e != api.OK && (len(l) != 0 || p != (api.Pad{})) {
			t.Errorf("%d bytes of %+q: %v %v beside an error", len(c.text), c.text[:3], l, p)
		}
	}
}

// TestMostEntries: as many as a text may end.
func TestMostEntries(t *testing.T) {
	text, want := "", []api.Entry(nil)
	for i := range api.MaxTyped / 2 {
		text += fmt.Sprint(i%10) + "#"
		want = append(want, api.Entry{Text: fmt.Sprint(i % 10), Code: api.OK})
	}
	keyed(t, text, want, api.Pad{})
	text, want = strings.Repeat("x#", api.MaxTyped/2), slices.Repeat([]api.Entry{{Code: api.ErrForm}}, api.MaxTyped/2)
	keyed(t, text, want, api.Pad{})
}

// pieces that drawn texts are made of: digits more often than the rest.
func pieces() []string {
	l := []string{"*", "*", "#", "#", "#", "#", "x", "\n", "\u00e9", "\U0001f600", "\ufffd", " ", "-", "\u00a0", full, full[:10]}
	l = append(l, torn...)
	for range 3 {
		for _, s := range scripts {
			for _, r := range s {
				l = append(l, string(r))
			}
		}
	}
	return l
}

// drawn texts.
func drawn(r *rand.Rand, howMany int) []string {
	l, from := []string{}, pieces()
	for range howMany {
		var b strings.Builder
		for range r.IntN(60) {
			b.WriteString(from[r.IntN(len(from))])
		}
		l = append(l, b.String())
	}
	return l
}

// reckoned: entries and pad of a text, entry by entry: each piece between two ends is looked at by itself.
func reckoned(text string) ([]api.Entry, api.Pad) {
	var l []api.Entry
	parts := strings.Split(text, "#")
	for _, part := range parts[:len(parts)-1] {
		p := reckonedPad(part)
		if p.Bad {
			l = append(l, api.Entry{Code: api.ErrForm})
		} else if p.Digits != "" {
			l = append(l, api.Entry{Text: p.Digits})
		}
	}
	return l, reckonedPad(parts[len(parts)-1])
}

func reckonedPad(part string) api.Pad {
	digits, meanings := digitOf(), map[rune]func(*api.Pad){
		' ': func(*api.Pad) {}, '-': func(*api.Pad) {}, '\u00a0': func(*api.Pad) {},
		'*': func(p *api.Pad) {
			if p.Digits != "" {
				p.Digits = p.Digits[:len(p.Digits)-1]
			}
		},
	}
	var p api.Pad
	for len(part) > 0 {
		r, n := utf8.DecodeRuneInString(part)
		part = part[n:]
		if d, ok := digits[r]; ok && len(p.Digits) < api.MaxKeys {
			p.Digits += string(d)
		} else if f, ok := meanings[r]; ok {
			f(&p)
		} else {
			p.Bad = true
		}
	}
	return p
}

func TestDrawnKeys(t *testing.T) {
	for _, s := range drawn(rand.New(rand.NewPCG(5, 30)), 5000) {
		want, pad := reckoned(s)
		keyed(t, s, want, pad)
	}
}

func TestKeysAreNew(t *testing.T) {
	one, _, _ := keypad.Keys("1#x#2#")
	other, _, _ := keypad.Keys("1#x#2#")
	for i := range one {
		one[i] = api.Entry{Text: "z", Code: api.ErrFull}
	}
	if want := said("1", bad, "2"); !slices.Equal(other, want) {
		t.Errorf("%v behind a change of another answer, want %v", other, want)
	}
}

// What comes of it

// TestInPieces: a text that is cut between characters, its first part by Keys, the rest key by key.
func TestInPieces(t *testing.T) {
	for _, s := range drawn(rand.New(rand.NewPCG(5, 31)), 300) {
		want, pad, _ := keypad.Keys(s)
		for cut := range s {
			l, p, e := keypad.Keys(s[:cut])
			if e != api.OK {
				t.Fatalf("Keys(%+q): %v", s[:cut], e)
			}
			for _, r := range s[cut:] {
				var some []api.Entry
				p, some = press(t, p, r)
				l = append(l, some...)
			}
			if p != pad || !slices.Equal(l, want) {
				t.Fatalf("%+q, cut at %d: %v %v, want %v %v", s, cut, l, p, want, pad)
			}
		}
	}
}

func TestDigitsAlone(t *testing.T) {
	r := rand.New(rand.NewPCG(5, 32))
	for n := 1; n <= api.MaxKeys; n++ {
		for range 50 {
			text, want := "", ""
			for range n {
				d := r.IntN(10)
				text += string([]rune(scripts[r.IntN(len(scripts))])[d])
				want += fmt.Sprint(d)
			}
			keyed(t, text, nil, api.Pad{Digits: want})
			keyed(t, text+"#", said(want), api.Pad{})
		}
	}
}

// TestTakenBackAtOnce: where a digit has room, to key it and to take it back leaves the pad as it was.
func TestTakenBackAtOnce(t *testing.T) {
	for _, p := range pads() {
		if len(p.Digits) == api.MaxKeys {
			continue
		}
		for _, s := range scripts {
			for _, r := range s {
				q, _ := press(t, p, r)
				still(t, q, '*', p)
			}
		}
	}
}
