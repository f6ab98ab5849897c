package token_test

import (
	"fmt"
	"math"
	"math/big"
	"math/rand/v2"
	"strings"
	"testing"

	"vendmeter/api"
	"vendmeter/token"
)

// top: 2^66.
var top, _ = new(big.Int).SetString("73786976294838206464", 10)

// mayBe: tokens at the edges of what may be, and ordinary ones.
var mayBe = []api.Token{
	{Class: api.Credit, Id: 1, Amount: 100, Tag: 7},
	{Class: api.Credit, Id: 1, Amount: 1},
	{Class: api.Credit, Id: 1, Amount: 1, Tag: api.MaxTag},
	{Class: api.Credit, Id: 1, Amount: api.MaxUnits},
	{Class: api.Credit, Id: api.MaxId, Amount: 1},
	{Class: api.Credit, Id: api.MaxId, Amount: api.MaxUnits, Tag: api.MaxTag},
	{Class: api.Credit, Id: 4711, Amount: 50000, Tag: 33333},
	{Class: api.Clear, Id: 1},
	{Class: api.Clear, Id: 1, Tag: api.MaxTag},
	{Class: api.Clear, Id: api.MaxId, Tag: api.MaxTag},
	{Class: api.Clear, Id: 17, Tag: 12345},
	{Class: api.Change, Id: 1, Amount: 1},
	{Class: api.Change, Id: 1, Amount: api.MaxRev},
	{Class: api.Change, Id: api.MaxId, Amount: api.MaxRev, Tag: api.MaxTag},
	{Class: api.Change, Id: 2, Amount: 9, Tag: 1},
	{Class: api.Test, Id: 1},
	{Class: api.Test, Id: api.MaxId},
	{Class: api.Test, Id: api.MaxId, Tag: api.MaxTag},
	{Class: api.Test, Id: 99, Tag: 256},
}

// odd: tokens that may not be.
var odd = []struct {
	t api.Token
	e api.Errno
}{
	{api.Token{Class: 4, Id: 1}, api.ErrClass},
	{api.Token{Class: -1, Id: 1}, api.ErrClass},
	{api.Token{Class: 5, Id: 1, Amount: 1}, api.ErrClass},
	{api.Token{Class: 8, Id: 1, Amount: 1}, api.ErrClass},
	{api.Token{Class: 1 << 32, Id: 1, Amount: 1}, api.ErrClass},
	{api.Token{Class: math.MaxInt, Id: 1, Amount: 1}, api.ErrClass},
	{api.Token{Class: math.MinInt, Id: 1, Amount: 1}, api.ErrClass},
	// The class is named ahead of all else.
	{api.Token{Class: 4}, api.ErrClass},
	{api.Token{Class: -1, Id: -1, Amount: -1, Tag: -1}, api.ErrClass},
	{api.Token{Class: 4, Id: api.MaxId + 1, Amount: api.MaxUnits + 1, Tag: api.MaxTag + 1}, api.ErrClass},
	{api.Token{}, api.ErrRange},
	{api.Token{Class: api.Credit, Id: 0, Amount: 1}, api.ErrRange},
	{api.Token{Class: api.Clear, Id: 0}, api.ErrRange},
	{api.Token{Class: api.Change, Id: 0, Amount: 1}, api.ErrRange},
	{api.Token{Class: api.Test, Id: 0}, api.ErrRange},
	{api.Token{Class: api.Credit, Id: api.MaxId + 1, Amount: 1}, api.ErrRange},
	{api.Token{Class: api.Clear, Id: api.MaxId + 1}, api.ErrRange},
	{api.Token{Class: api.Change, Id: api.MaxId + 1, Amount: 1}, api.ErrRange},
	{api.Token{Class: api.Test, Id: api.MaxId + 1}, api.ErrRange},
	{api.Token{Class: api.Test, Id: -1}, api.ErrRange},
	{api.Token{Class: api.Test, Id: 1<<32 + 1}, api.ErrRange},
	{api.Token{Class: api.Test, Id: math.MaxInt}, api.ErrRange},
	{api.Token{Class: api.Test, Id: math.MinInt}, api.ErrRange},
	{api.Token{Class: api.Credit, Id: 1, Amount: 0}, api.ErrRange},
	{api.Token{Class: api.Credit, Id: 1, Amount: -1}, api.ErrRange},
	{api.Token{Class: api.Credit, Id: 1, Amount: api.MaxUnits + 1}, api.ErrRange},
	{api.Token{Class: api.Credit, Id: 1, Amount: 1<<32 + 1}, api.ErrRange},
	{api.Token{Class: api.Credit, Id: 1, Amount: math.MaxInt}, api.ErrRange},
	{api.Token{Class: api.Credit, Id: 1, Amount: math.MinInt}, api.ErrRange},
	{api.Token{Class: api.Clear, Id: 1, Amount: 1}, api.ErrRange},
	{api.Token{Class: api.Clear, Id: 1, Amount: -1}, api.ErrRange},
	{api.Token{Class: api.Change, Id: 1, Amount: 0}, api.ErrRange},
	{api.Token{Class: api.Change, Id: 1, Amount: -1}, api.ErrRange},
	{api.Token{Class: api.Change, Id: 1, Amount: api.MaxRev + 1}, api.ErrRange},
	{api.Token{Class: api.Test, Id: 1, Amount: 1}, api.ErrRange},
	{api.Token{Class: api.Test, Id: 1, Amount: -1}, api.ErrRange},
	{api.Token{Class: api.Credit, Id: 1, Amount: 1, Tag: -1}, api.ErrRange},
	{api.Token{Class: api.Credit, Id: 1, Amount: 1, Tag: api.MaxTag + 1}, api.ErrRange},
	{api.Token{Class: api.Clear, Id: 1, Tag: api.MaxTag + 1}, api.ErrRange},
	{api.Token{Class: api.Change, Id: 1, Amount: 1, Tag: -1}, api.ErrRange},
	{api.Token{Class: api.Test, Id: 1, Tag: 1 << 32}, api.ErrRange},
	{api.Token{Class: api.Test, Id: 1, Tag: math.MaxInt}, api.ErrRange},
	{api.Token{Class: api.Test, Id: 1, Tag: math.MinInt}, api.ErrRange},
}

// tokens that may be: the edges, and drawn ones of all classes.
func tokens() []api.Token {
	l := append([]api.Token{}, mayBe...)
	r := rand.New(rand.NewPCG(4, 97))
	for range 2000 {
		id, tag := 1+r.IntN(api.MaxId), r.IntN(api.MaxTag+1)
		l = append(l,
			api.Token{Class: api.Credit, Id: id, Amount: 1 + r.IntN(api.MaxUnits), Tag: tag},
			api.Token{Class: api.Clear, Id: id, Tag: tag},
			api.Token{Class: api.Change, Id: id, Amount: 1 + r.IntN(api.MaxRev), Tag: tag},
			api.Token{Class: api.Test, Id: id, Tag: tag})
	}
	return l
}

// number of four fields, whatever they are, by the sum that the chapter tells.
func number(class, id, amount, tag int64) *big.Int {
	power := func(n int64, exp uint) *big.Int { return new(big.Int).Lsh(big.NewInt(n), exp) }
	body := power(class, 41)
	body.Add(body, power(id, 21)).Add(body, big.NewInt(amount))
	body.Mul(body, big.NewInt(65536)).Add(body, big.NewInt(tag))
	return body.Mul(body, big.NewInt(97))
}

func numberOf(t api.Token) *big.Int {
	return number(int64(t.Class), int64(t.Id), int64(t.Amount), int64(t.Tag))
}

// twenty digits of a number.
func twenty(n *big.Int) string {
	s := n.String()
	return strings.Repeat("0", 20-len(s)) + s
}

func value(w api.Wide) *big.Int {
	n := new(big.Int)
	for i := len(w) - 1; i >= 0; i-- {
		n.Lsh(n, 32).Add(n, big.NewInt(int64(w[i])))
	}
	return n
}

// P4.1

func TestMayBe(t *testing.T) {
	for _, k := range mayBe {
		if _, e := token.Body(k); e != api.OK {
			t.Errorf("Body(%v): %v", k, e)
		}
		if _, e := token.Words(k); e != api.OK {
			t.Errorf("Words(%v): %v", k, e)
		}
		if _, e := token.Format(k); e != api.OK {
			t.Errorf("Format(%v): %v", k, e)
		}
	}
}

func TestMayNotBe(t *testing.T) {
	for _, c := range odd {
		if b, e := token.Body(c.t); b != 0 || e != c.e {
			t.Errorf("Body(%v): %d, %v; want 0, %v", c.t, b, e, c.e)
		}
		if w, e := token.Words(c.t); w != (api.Wide{}) || e != c.e {
			t.Errorf("Words(%v): %v, %v; want none, %v", c.t, w, e, c.e)
		}
		if s, e := token.Format(c.t); s != "" || e != c.e {
			t.Errorf("Format(%v): %q, %v; want none, %v", c.t, s, e, c.e)
		}
	}
}

// TestAmountsByClass: each class with each small amount.
func TestAmountsByClass(t *testing.T) {
	for amount := -2; amount <= 40; amount++ {
		for class, good := range []bool{amount >= 1, amount == 0, amount >= 1 && amount <= 15, amount == 0} {
			k := api.Token{Class: class, Id: 3, Amount: amount, Tag: 5}
			want := api.ErrRange
			if good {
				want = api.OK
			}
			if _, e := token.Format(k); e != want {
				t.Errorf("Format(%v): %v; want %v", k, e, want)
			}
		}
	}
}

// P4.2

func TestBody(t *testing.T) {
	for _, c := range []struct {
		t    api.Token
		want int
	}{
		{api.Token{Class: api.Credit, Id: 1, Amount: 100, Tag: 7}, 2097252},
		{api.Token{Class: api.Credit, Id: 1, Amount: 100, Tag: api.MaxTag}, 2097252},
		{api.Token{Class: api.Credit, Id: 1, Amount: 1}, 2097153},
		{api.Token{Class: api.Credit, Id: api.MaxId, Amount: api.MaxUnits}, 2199023255551},
		{api.Token{Class: api.Clear, Id: 1}, 2199025352704},
		{api.Token{Class: api.Change, Id: 2, Amount: 15}, 4398050705423},
		{api.Token{Class: api.Test, Id: 1}, 6597071863808},
		{api.Token{Class: api.Test, Id: api.MaxId}, 8796090925056},
	} {
		if got, e := token.Body(c.t); got != c.want || e != api.OK {
			t.Errorf("Body(%v): %d, %v; want %d", c.t, got, e, c.want)
		}
	}
	for _, k := range tokens() {
		want := k.Class*(1<<41) + k.Id*(1<<21) + k.Amount
		if got, e := token.Body(k); got != want || e != api.OK {
			t.Fatalf("Body(%v): %d, %v; want %d", k, got, e, want)
		}
	}
}

// P4.3

func TestWords(t *testing.T) {
	for _, k := range tokens() {
		w, e := token.Words(k)
		got, want := value(w), numberOf(k)
		if got.Cmp(want) != 0 || e != api.OK {
			t.Fatalf("Words(%v): %v, which is %v, %v; want %v", k, w, got, e, want)
		}
		if got.Cmp(top) >= 0 {
			t.Fatalf("Words(%v): %v, which is not below 2^66", k, got)
		}
	}
}

// P4.4

func TestFormat(t *testing.T) {
	for _, c := range []struct {
		t    api.Token
		want string
	}{
		{api.Token{Class: api.Credit, Id: 1, Amount: 100, Tag: 7}, "00000013332214186663"},
		{api.Token{Class: api.Credit, Id: 1, Amount: 1}, twenty(big.NewInt(97 * 2097153 * 65536))},
		{api.Token{Class: api.Test, Id: api.MaxId, Tag: api.MaxTag}, twenty(number(3, 1048575, 0, 65535))},
	} {
		if got, e := token.Format(c.t); got != c.want || e != api.OK {
			t.Errorf("Format(%v): %q, %v; want %q", c.t, got, e, c.want)
		}
	}
	for _, k := range tokens() {
		want := fmt.Sprintf("%020d", numberOf(k))
		got, e := token.Format(k)
		if got != want || len(got) != 20 || e != api.OK {
			t.Fatalf("Format(%v): %q, %v; want %q", k, got, e, want)
		}
	}
}

// P4.5

func TestParse(t *testing.T) {
	for _, k := range tokens() {
		s := twenty(numberOf(k))
		if got, e := token.Parse(s); got != k || e != api.OK {
			t.Fatalf("Parse(%q): %v, %v; want %v", s, got, e, k)
		}
	}
}

func TestParseRefuses(t *testing.T) {
	const good = "00000013332214186663"
	for _, c := range []struct {
		s string
		e api.Errno
	}{
		{"", api.ErrLength},
		{"1", api.ErrLength},
		{good[1:], api.ErrLength},
		{"0" + good, api.ErrLength},
		{good + "0", api.ErrLength},
		{good + " ", api.ErrLength},
		{good + "\n", api.ErrLength},
		{good + good, api.ErrLength},
		{"13332214186663", api.ErrLength},
		{strings.Repeat("9", 100000), api.ErrLength},
		// The length is named ahead of the digits, and told in bytes.
		{"x", api.ErrLength},
		{strings.Repeat("x", 19), api.ErrLength},
		{strings.Repeat("x", 21), api.ErrLength},
		{strings.Repeat("٣", 20), api.ErrLength},
		{"٣" + good[1:], api.ErrLength},
		{strings.Repeat("٣", 10), api.ErrDigit},
		{"٣" + good[2:], api.ErrDigit},
		{"İ" + good[2:], api.ErrDigit}, // U+0130, whose lowest byte is that of a digit
		{strings.Repeat("\xff", 20), api.ErrDigit},
		{"\xc3" + good[1:], api.ErrDigit},
		{good[:19] + "\xd9", api.ErrDigit},
		{good[:19] + "x", api.ErrDigit},
		{"x" + good[1:], api.ErrDigit},
		{"-" + good[1:], api.ErrDigit},
		{"+" + good[1:], api.ErrDigit},
		{" " + good[1:], api.ErrDigit},
		{good[:10] + "_" + good[11:], api.ErrDigit},
		// A byte that is no digit is named ahead of a number that is too great.
		{strings.Repeat("9", 19) + "x", api.ErrDigit},
		{"9x" + strings.Repeat("0", 18), api.ErrDigit},
		{"73786976294838206464", api.ErrRange},
		{"73786976294838206465", api.ErrRange},
		{"80000000000000000000", api.ErrRange},
		{"99999999999999999999", api.ErrRange},
		{"00000013332214186664", api.ErrCheck},
		{"00000013332214186662", api.ErrCheck},
		{"00000000000000000001", api.ErrCheck},
		{"00000000000000000096", api.ErrCheck},
		{"00000000000000000098", api.ErrCheck},
		{"00000000000000000000", api.ErrRange},
		{"00000000000000000097", api.ErrRange},
	} {
		if got, e := token.Parse(c.s); got != (api.Token{}) || e != c.e {
			t.Errorf("Parse(%q): %v, %v; want none, %v", c.s, got, e, c.e)
		}
	}
}

// TestParseNoToken: multiples of 97 below 2^66 that no token that may be has, by each field that is wrong in them.
func TestParseNoToken(t *testing.T) {
	for _, f := range [][4]int64{
		{0, 0, 1, 7}, {0, 0, 0, 0}, {1, 0, 0, 7}, {2, 0, 1, 7}, {3, 0, 0, 7},
		{0, 1, 0, 7}, {0, 1048575, 0, 65535},
		{1, 1, 1, 7}, {1, 1, 2097151, 7}, {3, 1, 1, 7}, {3, 1048575, 2097151, 65535},
		{2, 1, 0, 7}, {2, 1, 16, 7}, {2, 1, 17, 7}, {2, 1, 2097151, 7},
		// Classes that are none: out of range, as digits.
		{4, 1, 1, 7}, {4, 0, 0, 0}, {4, 1, 0, 7}, {4, 1048575, 2097151, 65535}, {5, 1, 0, 7}, {5, 1, 1, 7},
	} {
		n := number(f[0], f[1], f[2], f[3])
		if n.Cmp(top) >= 0 {
			t.Fatalf("%v: its number is not below 2^66", f)
		}
		if got, e := token.Parse(twenty(n)); got != (api.Token{}) || e != api.ErrRange {
			t.Errorf("Parse(%q), of %v: %v, %v; want none, %v", twenty(n), f, got, e, api.ErrRange)
		}
	}
}

// TestParseAtTop: all numbers near 2^66; that it is reached is named ahead of the check.
func TestParseAtTop(t *testing.T) {
	for by := int64(-300); by <= 300; by++ {
		n := new(big.Int).Add(top, big.NewInt(by))
		want := api.ErrRange
		if by < 0 && new(big.Int).Mod(n, big.NewInt(97)).Sign() != 0 {
			want = api.ErrCheck
		}
		if got, e := token.Parse(twenty(n)); got != (api.Token{}) || e != want {
			t.Errorf("Parse(%q): %v, %v; want none, %v", twenty(n), got, e, want)
		}
	}
}

// TestParseEachByte: every byte that is no digit, at every place.
func TestParseEachByte(t *testing.T) {
	for b := range 256 {
		if b >= '0' && b <= '9' {
			continue
		}
		for at := range 20 {
			s := []byte("00000013332214186663")
			s[at] = byte(b)
			if got, e := token.Parse(string(s)); got != (api.Token{}) || e != api.ErrDigit {
				t.Errorf("Parse(%q): %v, %v; want none, %v", s, got, e, api.ErrDigit)
			}
		}
	}
}

// TestParseDrawn: drawn digits, every second of them a multiple of 97; what is taken is what Format writes so.
func TestParseDrawn(t *testing.T) {
	r := rand.New(rand.NewPCG(4, 5))
	bound, factor := new(big.Int).Exp(big.NewInt(10), big.NewInt(20), nil), big.NewInt(97)
	taken := 0
	for i := range 40000 {
		n := new(big.Int).SetUint64(r.Uint64())
		n.Mul(n, big.NewInt(int64(1+r.IntN(6)))).Mod(n, bound)
		rest := new(big.Int).Mod(n, factor)
		if i%2 == 0 {
			n.Sub(n, rest)
			rest.SetInt64(0)
		}
		got, e := token.Parse(twenty(n))
		switch {
		case e == api.OK:
			taken++
			if s, f := token.Format(got); s != twenty(n) || f != api.OK {
				t.Fatalf("Parse(%q): %v, of which the Format is %q, %v", twenty(n), got, s, f)
			}
		case got != (api.Token{}):
			t.Fatalf("Parse(%q): %v beside %v", twenty(n), got, e)
		case n.Cmp(top) < 0 && rest.Sign() != 0:
			if e != api.ErrCheck {
				t.Fatalf("Parse(%q): %v; want %v", twenty(n), e, api.ErrCheck)
			}
		case e != api.ErrRange:
			t.Fatalf("Parse(%q): %v; want %v", twenty(n), e, api.ErrRange)
		}
	}
	if taken == 0 {
		t.Error("no digits were taken")
	}
}

// TestSlips: one wrong digit, and two unlike neighbours that change places, make no token of a token's digits.
func TestSlips(t *testing.T) {
	refused := func(s, slip string) {
		if got, e := token.Parse(slip); got != (api.Token{}) || e != api.ErrCheck && e != api.ErrRange {
			t.Fatalf("Parse(%q), a slip of %q: %v, %v", slip, s, got, e)
		}
	}
	for _, k := range tokens()[:400] {
		s, _ := token.Format(k)
		for at := range len(s) {
			for digit := byte('0'); digit <= '9'; digit++ {
				if digit != s[at] {
					refused(s, s[:at]+string(digit)+s[at+1:])
				}
			}
			if at > 0 && s[at-1] != s[at] {
				refused(s, s[:at-1]+string(s[at])+string(s[at-1])+s[at+1:])
			}
		}
	}
}
