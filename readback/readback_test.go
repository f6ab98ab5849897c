package readback_test

import (
	"fmt"
	"math"
	"math/big"
	"math/rand/v2"
	"strings"
	"sync"
	"testing"

	"vendmeter/api"
	"vendmeter/meter"
	"vendmeter/readback"
)

// The chapter's numbers, written out.
const (
	mostCredit = 99999999
	mostHigh   = 1048575
	mostMe     = 49
	length     = 18
)

// number that a meter with these registers would show, reckoned with wide numbers, whether it may be or not.
func number(me, credit, high int) *big.Int {
	n := big.NewInt(int64(credit))
	n.Mul(n, big.NewInt(1048576))
	n.Add(n, big.NewInt(int64(high)))
	n.Mul(n, big.NewInt(50))
	n.Add(n, big.NewInt(int64(me)))
	return n.Mul(n, big.NewInt(97))
}

// code: that number in eighteen digits.
func code(me, credit, high int) string { return fmt.Sprintf("%018d", number(me, credit, high)) }

// told: what a text tells, and why it tells nothing: the promise by its words.
func told(s string) (api.Shown, api.Errno) {
	if len(s) != length {
		return api.Shown{}, api.ErrLength
	}
	for i := range len(s) {
		if s[i] < '0' || s[i] > '9' {
			return api.Shown{}, api.ErrDigit
		}
	}
	n, _ := new(big.Int).SetString(s, 10)
	rest := new(big.Int)
	if n.DivMod(n, big.NewInt(97), rest); rest.Sign() != 0 {
		return api.Shown{}, api.ErrCheck
	}
	n.DivMod(n, big.NewInt(50), rest)
	x := api.Shown{Me: int(rest.Int64())}
	n.DivMod(n, big.NewInt(1048576), rest)
	x.High, x.Credit = int(rest.Int64()), int(n.Int64())
	if x.Credit > mostCredit {
		return api.Shown{}, api.ErrRange
	}
	return x, api.OK
}

// window whose highest number this is.
func window(high int) api.Window {
	if high == 0 {
		return api.Window{}
	}
	return api.Window{High: high, Bits: 1}
}

// of: a meter that shows these.
func of(me, credit, high int) api.Meter {
	return api.Meter{Me: me, Credit: credit, Window: window(high)}
}

// plain: a meter that may be, whose registers all differ.
var plain = api.Meter{Me: 7, Rev: 3, Credit: 500, Window: api.Window{High: 9, Bits: 5}}

// credits, highest numbers and meters: the ends, what is near them, and powers of two and of ten.
var (
	credits = []int{0, 1, 2, 10, 255, 1000, 65536, 1048575, 1048576, 16777215, 50000000, mostCredit - 1, mostCredit}
	highs   = []int{0, 1, 2, 50, 63, 64, 65, 97, 65535, 524288, mostHigh - 1, mostHigh}
	mes     = []int{0, 1, 2, 10, 25, mostMe - 1, mostMe}
)

// eachMeter of the edges, and drawn ones.
func eachMeter(call func(m api.Meter)) {
	for _, me := range mes {
		for _, credit := range credits {
			for _, high := range highs {
				call(of(me, credit, high))
			}
		}
	}
	r := rand.New(rand.NewPCG(20, 1))
	for range 5000 {
		call(drawnMeter(r))
	}
}

// drawnMeter: any meter that may be.
func drawnMeter(r *rand.Rand) api.Meter {
	m := of(r.IntN(mostMe+1), r.IntN(mostCredit+1), r.IntN(mostHigh+1))
	m.Rev = r.IntN(16)
	if high := m.Window.High; high > 0 {
		m.Window.Bits = r.Uint64() | 1
		if high < 64 {
			m.Window.Bits &= 1<<high - 1
		}
	}
	if r.IntN(2) == 0 {
		m.Bad = r.IntN(5)
	} else {
		m.Lock = r.IntN(31)
	}
	return m
}

func codeIs(t *testing.T, m api.Meter, want string, f api.Errno) {
	t.Helper()
	if got, e := readback.Code(m); got != want || e != f {
		t.Errorf("Code(%v): %q, %v; want %q, %v", m, got, e, want, f)
	}
}

func readIs(t *testing.T, s string, want api.Shown, f api.Errno) {
	t.Helper()
	if got, e := readback.Read(s); got != want || e != f {
		t.Errorf("Read(%q): %v, %v; want %v, %v", s, got, e, want, f)
	}
}

// refuses: nothing is read of the text, for this reason.
func refuses(t *testing.T, s string, f api.Errno) {
	t.Helper()
	readIs(t, s, api.Shown{}, f)
}

// P20.1

func TestCode(t *testing.T) {
	for _, c := range []struct {
		m    api.Meter
		want string
	}{
		{api.Meter{}, "000000000000000000"},
		{of(1, 0, 0), "000000000000000097"},
		{of(3, 0, 0), "000000000000000291"},
		{of(49, 0, 0), "000000000000004753"},
		{of(0, 0, 1), "000000000000004850"},
		{of(0, 0, mostHigh), "000000005085588750"},
		{of(0, 1, 0), "000000005085593600"},
		{of(49, 1, mostHigh), "000000010171187103"},
		{of(0, mostCredit, 0), "508559354914406400"},
		{of(49, mostCredit, mostHigh), "508559359999999903"},
	} {
		codeIs(t, c.m, c.want, api.OK)
	}
}

func TestCodeByRule(t *testing.T) {
	eachMeter(func(m api.Meter) {
		codeIs(t, m, code(m.Me, m.Credit, m.Window.High), api.OK)
	})
}

// TestCodeOfEveryMeter: all numbers of meters, with any highest number of the first ones and of the last ones.
func TestCodeOfEveryMeter(t *testing.T) {
	for me := range mostMe + 1 {
		for i := range 200 {
			for _, high := range []int{i, mostHigh - i} {
				codeIs(t, of(me, 12345, high), code(me, 12345, high), api.OK)
			}
		}
	}
}

// TestCodeOfTheOthers: a meter's revision, its bits, its tries and its lock are not shown.
func TestCodeOfTheOthers(t *testing.T) {
	want := code(plain.Me, plain.Credit, plain.Window.High)
	for rev := range 16 {
		for bits := uint64(1); bits < 1<<9; bits += 2 {
			m := plain
			m.Rev, m.Window.Bits = rev, bits
			codeIs(t, m, want, api.OK)
		}
	}
	for bad := range 5 {
		m := plain
		m.Bad = bad
		codeIs(t, m, want, api.OK)
	}
	for lock := range 31 {
		m := plain
		m.Lock = lock
		codeIs(t, m, want, api.OK)
	}
}

// TestCodeOfNoMeter: each register beyond its bounds, those among the numbers that would be good ones of 32 bits or less.
func TestCodeOfNoMeter(t *testing.T) {
	for _, r := range []struct {
		most int
		at   func(*api.Meter) *int
	}{
		{mostMe, func(m *api.Meter) *int { return &m.Me }},
		{15, func(m *api.Meter) *int { return &m.Rev }},
		{mostCredit, func(m *api.Meter) *int { return &m.Credit }},
		{mostHigh, func(m *api.Meter) *int { return &m.Window.High }},
		{4, func(m *api.Meter) *int { return &m.Bad }},
		{30, func(m *api.Meter) *int { return &m.Lock }},
	} {
		for _, n := range []int{
			-1, -2, -r.most, -r.most - 1, math.MinInt32, -1 << 32, math.MinInt + 1, math.MinInt,
			r.most + 1, r.most + 2, 2*r.most + 1, 1 << 32, 1<<32 + 1, 1<<32 + 9, 1 << 62, math.MaxInt - 1, math.MaxInt,
		} {
			m := plain
			*r.at(&m) = n
			codeIs(t, m, "", api.ErrState)
		}
	}
}

// TestCodeOfNoWindow: windows that may not be, and tries that are counted while the keypad is locked.
func TestCodeOfNoWindow(t *testing.T) {
	for _, w := range []api.Window{
		{Bits: 1}, {Bits: 1 << 63}, {High: 1}, {High: 1, Bits: 2}, {High: 1, Bits: 3}, {High: 9, Bits: 4}, {High: 9, Bits: 1<<9 | 1},
		{High: 63, Bits: 1<<63 | 1}, {High: 64, Bits: math.MaxUint64 - 1}, {High: mostHigh}, {High: mostHigh + 1, Bits: 1}, {High: -1, Bits: 1},
	} {
		m := plain
		m.Window = w
		codeIs(t, m, "", api.ErrState)
	}
	for _, both := range [][2]int{{1, 1}, {4, 30}, {1, 30}, {4, 1}} {
		m := plain
		m.Bad, m.Lock = both[0], both[1]
		codeIs(t, m, "", api.ErrState)
	}
}

// P20.2

func TestRead(t *testing.T) {
	for _, c := range []struct {
		s    string
		want api.Shown
	}{
		{"000000000000000000", api.Shown{}},
		{"000000000000000097", api.Shown{Me: 1}},
		{"000000000000000291", api.Shown{Me: 3}},
		{"000000000000004753", api.Shown{Me: 49}},
		{"000000000000004850", api.Shown{High: 1}},
		{"000000005085588750", api.Shown{High: 1048575}},
		{"000000005085593600", api.Shown{Credit: 1}},
		{"000000010171187103", api.Shown{Me: 49, Credit: 1, High: 1048575}},
		{"508559354914406400", api.Shown{Credit: 99999999}},
		{"508559359999999903", api.Shown{Me: 49, Credit: 99999999, High: 1048575}},
	} {
		readIs(t, c.s, c.want, api.OK)
	}
}

// TestReadLength: every other length, be it of digits or not; the length is told in bytes, and ahead of all else.
func TestReadLength(t *testing.T) {
	for n := range 300 {
		if n == length {
			continue
		}
		for _, one := range []string{"0", "9", "x", "\xff", "\x00"} {
			refuses(t, strings.Repeat(one, n), api.ErrLength)
		}
	}
	for _, s := range []string{
		"", "291", "0000000000000000291", "00000000000000291", " 000000000000000291", "000000000000000291\n", "000000000000000291 ",
		"000000000000000291\x00", "00000000000000029１", strings.Repeat("０", length), strings.Repeat("٣", 10), strings.Repeat("0", 1000000),
	} {
		refuses(t, s, api.ErrLength)
	}
}

// TestReadByteByByte: every byte at every place, in codes that are good, that tell a slip, and that are beyond MaxCredit.
func TestReadByteByByte(t *testing.T) {
	for _, s := range []string{"000000000000000000", "000000000000000291", "508559359999999903", "000000000000000292", "999999999999999911", "123456789012345678"} {
		for place := range length {
			for b := range 256 {
				l := []byte(s)
				l[place] = byte(b)
				want, f := told(string(l))
				readIs(t, string(l), want, f)
			}
		}
	}
}

func TestReadNoDigits(t *testing.T) {
	for _, s := range []string{
		"-00000000000000291", "+00000000000000291", " 00000000000000291", "00000000000000291 ", "00000000000000291\n", "0x0000000000000291",
		"000000000000000_97", "0_0000000000000291", "00000000000000029l", "0000000000000009.7", "00000000000000１97"[:18], strings.Repeat("٣", 9),
		strings.Repeat("０", 6), strings.Repeat("\xff", 18), strings.Repeat("\x00", 18), "99999999999999999x", "x99999999999999999", "000000000000000 97",
		strings.Repeat("İ", 9), // U+0130, whose lowest byte is that of a digit
	} {
		refuses(t, s, api.ErrDigit)
	}
}

// TestReadCheck: numbers near multiples of 97, whether the credit would be too much or not.
func TestReadCheck(t *testing.T) {
	for _, s := range []string{code(3, 0, 0), code(0, 0, 1), code(49, mostCredit-1, mostHigh), code(0, mostCredit+1, 0), code(20, 150000000, 7)} {
		n, _ := new(big.Int).SetString(s, 10)
		for more := 1; more < 97; more++ {
			off := new(big.Int).Add(n, big.NewInt(int64(more)))
			refuses(t, fmt.Sprintf("%018d", off), api.ErrCheck)
		}
	}
	refuses(t, "999999999999999999", api.ErrCheck)
	refuses(t, "000000000000000001", api.ErrCheck)
}

// TestReadRange: the first credit that is too much, with whatever else, and all up to the last code that there could be.
func TestReadRange(t *testing.T) {
	for _, me := range mes {
		for _, high := range highs {
			readIs(t, code(me, mostCredit, high), api.Shown{Me: me, Credit: mostCredit, High: high}, api.OK)
			for _, credit := range []int{mostCredit + 1, mostCredit + 2, 134217727, 134217728, 196000000} {
				refuses(t, code(me, credit, high), api.ErrRange)
			}
		}
	}
	refuses(t, "508559360000000000", api.ErrRange)
	refuses(t, "999999999999999911", api.ErrRange)
}

// TestReadDrawn: texts of digits, multiples of 97 among them, held against the chapter's words.
func TestReadDrawn(t *testing.T) {
	r := rand.New(rand.NewPCG(20, 2))
	const all = 1000000000000000000
	for range 20000 {
		n := r.Int64N(all)
		if r.IntN(4) == 0 {
			n >>= r.IntN(60)
		}
		for _, n := range []int64{n, n - n%97} {
			s := fmt.Sprintf("%018d", n)
			want, f := told(s)
			readIs(t, s, want, f)
		}
	}
}

// What comes of it

// TestShownIsRead: each meter's code tells what it has, and no other meter shows it.
func TestShownIsRead(t *testing.T) {
	seen := make(map[string]api.Shown)
	eachMeter(func(m api.Meter) {
		x := api.Shown{Me: m.Me, Credit: m.Credit, High: m.Window.High}
		s, e := readback.Code(m)
		if e != api.OK {
			t.Errorf("Code(%v): %v", m, e)
		}
		readIs(t, s, x, api.OK)
		if other, ok := seen[s]; ok && other != x {
			t.Errorf("%v and %v both show %s", other, x, s)
		}
		seen[s] = x
	})
}

// TestReadIsShown: what is read of digits is shown in those very digits.
func TestReadIsShown(t *testing.T) {
	r := rand.New(rand.NewPCG(20, 3))
	for range 20000 {
		s := fmt.Sprintf("%018d", r.Int64N(5242880000000000)*97)
		x, e := readback.Read(s)
		if e != api.OK {
			t.Fatalf("Read(%q): %v", s, e)
		}
		codeIs(t, of(x.Me, x.Credit, x.High), s, api.OK)
	}
}

// TestSlips: one wrong digit, and any two unlike ones that changed places, at each place of many codes.
func TestSlips(t *testing.T) {
	r := rand.New(rand.NewPCG(20, 4))
	l := []api.Meter{{Me: 3}, of(49, mostCredit, mostHigh), of(0, mostCredit, 0), of(0, 0, mostHigh), plain}
	for range 200 {
		l = append(l, drawnMeter(r))
	}
	for _, m := range l {
		s := code(m.Me, m.Credit, m.Window.High)
		for i := range length {
			for digit := byte('0'); digit <= '9'; digit++ {
				if digit != s[i] {
					refuses(t, s[:i]+string(digit)+s[i+1:], api.ErrCheck)
				}
			}
			for j := range i {
				if s[i] != s[j] {
					refuses(t, s[:j]+s[i:i+1]+s[j+1:i]+s[j:j+1]+s[i+1:], api.ErrCheck)
				}
			}
		}
	}
}

// TestLifeOfAMeter: what a meter shows follows what is keyed in and what is burned.
func TestLifeOfAMeter(t *testing.T) {
	sold := api.Token{Class: api.Credit, Id: 5, Amount: 1000, Tag: 7}
	tags := api.Oracle{Pairs: []api.Pair{{Meter: 12, Body: 5<<21 | 1000, Tag: 7}}}
	m, _ := meter.Begin(12)
	readIs(t, show(t, m), api.Shown{Me: 12}, api.OK)
	m, _, _ = meter.Key(m, tags, sold)
	readIs(t, show(t, m), api.Shown{Me: 12, Credit: 1000, High: 5}, api.OK)
	m, _, _ = meter.Tick(m, 40)
	readIs(t, show(t, m), api.Shown{Me: 12, Credit: 960, High: 5}, api.OK)
	for range 5 {
		m, _, _ = meter.Key(m, tags, api.Token{Class: api.Credit, Id: 6, Amount: 1, Tag: 8})
	}
	readIs(t, show(t, m), api.Shown{Me: 12, Credit: 960, High: 5}, api.OK)
}

// show: a meter's code.
func show(t *testing.T, m api.Meter) string {
	t.Helper()
	s, e := readback.Code(m)
	if e != api.OK {
		t.Errorf("Code(%v): %v", m, e)
	}
	return s
}

// TestManyAtOnce: nothing is kept from call to call, whoever else calls.
func TestManyAtOnce(t *testing.T) {
	var group sync.WaitGroup
	for me := range mostMe + 1 {
		group.Go(func() {
			for high := range 200 {
				s := code(me, high*7, high)
				codeIs(t, of(me, high*7, high), s, api.OK)
				readIs(t, s, api.Shown{Me: me, Credit: high * 7, High: high}, api.OK)
				codeIs(t, of(me+50, high*7, high), "", api.ErrState)
				refuses(t, s[1:], api.ErrLength)
			}
		})
	}
	group.Wait()
}
