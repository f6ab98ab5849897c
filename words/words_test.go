package words_test

import (
	"math"
	"math/big"
	"math/rand/v2"
	"strings"
	"testing"

	"vendmeter/api"
	"vendmeter/words"
)

const top = math.MaxUint32

var (
	nothing  = api.Wide{}
	greatest = api.Wide{top, top, top}
)

// edges: words at which something may run over or be forgotten.
var edges = []uint32{0, 1, 2, 9, 10, 1 << 16, 1<<31 - 1, 1 << 31, top - 1, top}

// wides: all of three words that are edges, and some that are drawn.
func wides() []api.Wide {
	var l []api.Wide
	for _, a := range edges {
		for _, b := range edges {
			for _, c := range edges {
				l = append(l, api.Wide{a, b, c})
			}
		}
	}
	r := rand.New(rand.NewPCG(2, 96))
	for range 500 {
		l = append(l, api.Wide{r.Uint32(), r.Uint32(), r.Uint32()})
	}
	return l
}

// whole: the same number, as a big one.
func whole(w api.Wide) *big.Int {
	n := new(big.Int)
	for i := len(w) - 1; i >= 0; i-- {
		n.Lsh(n, 32)
		n.Add(n, big.NewInt(int64(w[i])))
	}
	return n
}

// withOver: the number whose lowest 96 bits are w, with over above them.
func withOver(w api.Wide, over uint32) *big.Int {
	n := new(big.Int).Lsh(big.NewInt(int64(over)), 96)
	return n.Add(n, whole(w))
}

// P2.1

func TestPlus(t *testing.T) {
	for _, c := range []struct {
		w    api.Wide
		a    uint32
		want api.Wide
		over uint32
	}{
		{nothing, 0, nothing, 0},
		{nothing, top, api.Wide{top, 0, 0}, 0},
		{api.Wide{1, 2, 3}, 4, api.Wide{5, 2, 3}, 0},
		{api.Wide{top, 0, 7}, 1, api.Wide{0, 1, 7}, 0},
		{api.Wide{top, top, 7}, 1, api.Wide{0, 0, 8}, 0},
		{api.Wide{top, 5, top}, top, api.Wide{top - 1, 6, top}, 0},
		{greatest, 0, greatest, 0},
		{greatest, 1, nothing, 1},
		{greatest, top, api.Wide{top - 1, 0, 0}, 1},
		{api.Wide{0, top, top}, top, greatest, 0},
	} {
		if got, over := words.Plus(c.w, c.a); got != c.want || over != c.over {
			t.Errorf("Plus(%v, %d): %v, %d; want %v, %d", c.w, c.a, got, over, c.want, c.over)
		}
	}
	for _, w := range wides() {
		for _, a := range edges {
			got, over := words.Plus(w, a)
			want := new(big.Int).Add(whole(w), big.NewInt(int64(a)))
			if withOver(got, over).Cmp(want) != 0 || over > 1 {
				t.Fatalf("Plus(%v, %d): %v, %d; want %v in all", w, a, got, over, want)
			}
		}
	}
}

// P2.2

func TestTimes(t *testing.T) {
	for _, c := range []struct {
		w    api.Wide
		m    uint32
		want api.Wide
		over uint32
	}{
		{api.Wide{top, 0, 0}, 2, api.Wide{top - 1, 1, 0}, 0},
		{nothing, top, nothing, 0},
		{greatest, 0, nothing, 0},
		{greatest, 1, greatest, 0},
		{greatest, 2, api.Wide{top - 1, top, top}, 1},
		{greatest, top, api.Wide{1, top, top}, top - 1},
		{api.Wide{0, 0, 1 << 31}, 2, nothing, 1},
		{api.Wide{0, 0, 1 << 31}, 1 << 31, nothing, 1 << 30},
		{api.Wide{1, 2, 3}, 10, api.Wide{10, 20, 30}, 0},
	} {
		if got, over := words.Times(c.w, c.m); got != c.want || over != c.over {
			t.Errorf("Times(%v, %d): %v, %d; want %v, %d", c.w, c.m, got, over, c.want, c.over)
		}
	}
	for _, w := range wides() {
		for _, m := range edges {
			got, over := words.Times(w, m)
			want := new(big.Int).Mul(whole(w), big.NewInt(int64(m)))
			if withOver(got, over).Cmp(want) != 0 {
				t.Fatalf("Times(%v, %d): %v, %d; want %v in all", w, m, got, over, want)
			}
		}
	}
}

// P2.3

func TestOver(t *testing.T) {
	for _, c := range []struct {
		w    api.Wide
		d    uint32
		want api.Wide
		left uint32
	}{
		{api.Wide{0, 1, 0}, 10, api.Wide{429496729, 0, 0}, 6},
		{nothing, 1, nothing, 0},
		{nothing, top, nothing, 0},
		{greatest, 1, greatest, 0},
		{greatest, top, api.Wide{1, 1, 1}, 0},
		{greatest, 2, api.Wide{top, top, top >> 1}, 1},
		{api.Wide{9, 0, 0}, 10, nothing, 9},
		{api.Wide{top - 1, 0, 0}, top, nothing, top - 1},
		{api.Wide{top, top - 1, 0}, top, api.Wide{top, 0, 0}, top - 1},
		{api.Wide{0, 0, 1}, 1 << 31, api.Wide{0, 2, 0}, 0},
	} {
		if got, left, e := words.Over(c.w, c.d); got != c.want || left != c.left || e != api.OK {
			t.Errorf("Over(%v, %d): %v, %d, %v; want %v, %d", c.w, c.d, got, left, e, c.want, c.left)
		}
	}
	for _, w := range wides() {
		if got, left, e := words.Over(w, 0); got != nothing || left != 0 || e != api.ErrZero {
			t.Fatalf("Over(%v, 0): %v, %d, %v", w, got, left, e)
		}
		for _, d := range edges[1:] {
			got, left, e := words.Over(w, d)
			quotient, rest := new(big.Int).QuoRem(whole(w), big.NewInt(int64(d)), new(big.Int))
			if whole(got).Cmp(quotient) != 0 || int64(left) != rest.Int64() || e != api.OK {
				t.Fatalf("Over(%v, %d): %v, %d, %v; want %v, %v", w, d, got, left, e, quotient, rest)
			}
		}
	}
}

// TestDividedIsHadAgain: from the quotient and what is left.
func TestDividedIsHadAgain(t *testing.T) {
	for _, w := range wides() {
		for _, d := range edges[1:] {
			quotient, left, _ := words.Over(w, d)
			product, high := words.Times(quotient, d)
			got, carry := words.Plus(product, left)
			if got != w || high != 0 || carry != 0 {
				t.Fatalf("%v over %d: %v, %d is left; times and plus: %v, %d, %d", w, d, quotient, left, got, high, carry)
			}
		}
	}
}

// P2.4

func TestCmp(t *testing.T) {
	for _, c := range []struct {
		a, b api.Wide
		want int
	}{
		{nothing, nothing, 0},
		{greatest, greatest, 0},
		{nothing, greatest, -1},
		{greatest, nothing, 1},
		{api.Wide{9, 1, 0}, api.Wide{0, 2, 0}, -1},
		{api.Wide{top, top, 0}, api.Wide{0, 0, 1}, -1},
		{api.Wide{0, 0, 1}, api.Wide{top, top, 0}, 1},
		{api.Wide{1, 5, 5}, api.Wide{2, 5, 5}, -1},
		{api.Wide{5, 2, 5}, api.Wide{6, 1, 5}, 1},
		{api.Wide{0, 0, 1 << 31}, api.Wide{0, 0, 1<<31 - 1}, 1}, // no sign
	} {
		if got := words.Cmp(c.a, c.b); got != c.want {
			t.Errorf("Cmp(%v, %v): %d; want %d", c.a, c.b, got, c.want)
		}
	}
	l := wides()
	for i, a := range l {
		for _, b := range []api.Wide{a, l[0], l[(i+1)%len(l)], l[(i*7+3)%len(l)], {a[0], a[1] ^ 1, a[2]}, {^a[0], a[1], a[2]}} {
			if got, want := words.Cmp(a, b), whole(a).Cmp(whole(b)); got != want {
				t.Fatalf("Cmp(%v, %v): %d; want %d", a, b, got, want)
			}
		}
	}
}

// P2.5

func TestShow(t *testing.T) {
	for _, c := range []struct {
		w    api.Wide
		want string
	}{
		{nothing, "0"},
		{api.Wide{1, 0, 0}, "1"},
		{api.Wide{10, 0, 0}, "10"},
		{api.Wide{1000000000, 0, 0}, "1000000000"},
		{api.Wide{0, 1, 0}, "4294967296"},
		{api.Wide{0, 0, 1}, "18446744073709551616"},
		{greatest, "79228162514264337593543950335"},
	} {
		if got := words.Show(c.w); got != c.want {
			t.Errorf("Show(%v): %q; want %q", c.w, got, c.want)
		}
	}
	for _, w := range wides() {
		if got, want := words.Show(w), whole(w).String(); got != want {
			t.Fatalf("Show(%v): %q; want %q", w, got, want)
		}
	}
}

// P2.6

func TestRead(t *testing.T) {
	for _, c := range []struct {
		s    string
		want api.Wide
		e    api.Errno
	}{
		{"0", nothing, api.OK},
		{"7", api.Wide{7, 0, 0}, api.OK},
		{"10", api.Wide{10, 0, 0}, api.OK},
		{"4294967295", api.Wide{top, 0, 0}, api.OK},
		{"4294967296", api.Wide{0, 1, 0}, api.OK},
		{"18446744073709551615", api.Wide{top, top, 0}, api.OK},
		{"18446744073709551616", api.Wide{0, 0, 1}, api.OK},
		{"79228162514264337593543950335", greatest, api.OK},
		{"79228162514264337593543950336", nothing, api.ErrRange}, // its last digit runs over
		{"79228162514264337593543950339", nothing, api.ErrRange},
		{"79228162514264337593543950340", nothing, api.ErrRange}, // ten times runs over
		{"80000000000000000000000000000", nothing, api.ErrRange},
		{"79228162514264337593543950336" + "00000000000", nothing, api.ErrRange},
		{strings.Repeat("9", api.MaxDigits), nothing, api.ErrRange},
		{"1" + strings.Repeat("0", api.MaxDigits-1), nothing, api.ErrRange},
		{strings.Repeat("9", api.MaxDigits+1), nothing, api.ErrSize},
		{strings.Repeat("0", api.MaxDigits+1), nothing, api.ErrSize}, // named ahead of ErrForm
		{strings.Repeat("x", api.MaxDigits+1), nothing, api.ErrSize},
		{strings.Repeat("é", api.MaxDigits/2) + "1", nothing, api.ErrSize}, // few letters, but 41 bytes
		{strings.Repeat("\xff", 5000), nothing, api.ErrSize},
	} {
		if got, e := words.Read(c.s); got != c.want || e != c.e {
			t.Errorf("Read(%q): %v, %v; want %v, %v", c.s, got, e, c.want, c.e)
		}
	}
}

func TestReadForm(t *testing.T) {
	for _, s := range []string{
		"", "01", "00", "000", "0123456789", "-1", "-0", "+1", "+0", " 1", "1 ", "1 0", "1\n", "\x001", "1\x00",
		"1.0", "1,0", "1_0", "1e9", "0x1", "a", "1a", "a1", "/", ":", "1/", "1:", "٣", "1٣", "１", "é", "1\xff", "\xff", "1\xc3",
		strings.Repeat("0", api.MaxDigits),
		strings.Repeat("9", api.MaxDigits-1) + "x", // named ahead of ErrRange
		strings.Repeat("9", api.MaxDigits-2) + "é",
		"0" + strings.Repeat("9", api.MaxDigits-1),
	} {
		if len(s) > api.MaxDigits {
			t.Fatalf("%q is too long for this test", s)
		}
		if got, e := words.Read(s); got != nothing || e != api.ErrForm {
			t.Errorf("Read(%q): %v, %v; want %v", s, got, e, api.ErrForm)
		}
	}
}

// TestReadShort: every text of up to two bytes is a number that Show makes, or is refused.
func TestReadShort(t *testing.T) {
	shown := map[string]uint32{}
	for n := range uint32(100) {
		shown[words.Show(api.Wide{n, 0, 0})] = n
	}
	for a := range 256 {
		for b := range 256 {
			for _, s := range []string{string([]byte{byte(a)}), string([]byte{byte(a), byte(b)})} {
				want, e := api.Wide{shown[s], 0, 0}, api.OK
				if _, ok := shown[s]; !ok {
					e = api.ErrForm
				}
				if got, f := words.Read(s); got != want || f != e {
					t.Fatalf("Read(%q): %v, %v; want %v, %v", s, got, f, want, e)
				}
			}
		}
	}
}

func TestShownIsRead(t *testing.T) {
	for _, w := range wides() {
		s := words.Show(w)
		if got, e := words.Read(s); got != w || e != api.OK {
			t.Fatalf("Read(%q): %v, %v; want %v", s, got, e, w)
		}
	}
}

// badFields: no fields of a wide number, or none of up to 64 bits.
var badFields = []struct{ lo, n int }{
	{-1, 1}, {-1, 64}, {-32, 32}, {math.MinInt, 1}, {math.MinInt, 64},
	{0, 0}, {0, -1}, {0, 65}, {0, 96}, {31, 65}, {95, 0}, {96, 0}, {0, math.MinInt}, {0, math.MaxInt}, {40, -8},
	{96, 1}, {95, 2}, {33, 64}, {65, 32}, {97, 1}, {1000, 5},
	{math.MaxInt, 1}, {math.MaxInt, 64}, {math.MaxInt, math.MaxInt}, {math.MinInt, math.MinInt}, // their sums wrap round
}

// P2.7

func TestBits(t *testing.T) {
	w := api.Wide{0x89abcdef, 0x01234567, 0xfedcba98}
	for _, c := range []struct {
		w     api.Wide
		lo, n int
		want  uint64
	}{
		{api.Wide{0, 1, 0}, 30, 4, 4},
		{w, 0, 1, 1},
		{w, 4, 1, 0},
		{w, 0, 4, 0xf},
		{w, 0, 32, 0x89abcdef},
		{w, 0, 64, 0x0123456789abcdef},
		{w, 32, 64, 0xfedcba9801234567},
		{w, 16, 64, 0xba980123456789ab}, // of all three words
		{w, 28, 8, 0x78},
		{w, 60, 8, 0x80},
		{w, 95, 1, 1},
		{w, 92, 4, 0xf},
		{w, 64, 32, 0xfedcba98},
		{greatest, 31, 64, math.MaxUint64},
		{nothing, 31, 64, 0},
	} {
		if got, e := words.Bits(c.w, c.lo, c.n); got != c.want || e != api.OK {
			t.Errorf("Bits(%x, %d, %d): %x, %v; want %x", c.w, c.lo, c.n, got, e, c.want)
		}
	}
	for _, c := range badFields {
		if got, e := words.Bits(w, c.lo, c.n); got != 0 || e != api.ErrRange {
			t.Errorf("Bits(%x, %d, %d): %x, %v; want %v", w, c.lo, c.n, got, e, api.ErrRange)
		}
	}
}

// P2.8

func TestPut(t *testing.T) {
	for _, c := range []struct {
		w     api.Wide
		lo, n int
		v     uint64
		want  api.Wide
	}{
		{nothing, 0, 1, 1, api.Wide{1, 0, 0}},
		{greatest, 0, 1, 0, api.Wide{top - 1, top, top}},
		{nothing, 95, 1, 1, api.Wide{0, 0, 1 << 31}},
		{nothing, 0, 64, math.MaxUint64, api.Wide{top, top, 0}},
		{nothing, 32, 64, math.MaxUint64, api.Wide{0, top, top}},
		{greatest, 16, 64, 0, api.Wide{0xffff, 0, 0xffff0000}}, // of all three words
		{greatest, 28, 8, 0x5a, api.Wide{0xafffffff, 0xfffffff5, top}},
		{api.Wide{1, 2, 3}, 32, 32, 9, api.Wide{1, 9, 3}},
	} {
		if got, e := words.Put(c.w, c.lo, c.n, c.v); got != c.want || e != api.OK {
			t.Errorf("Put(%x, %d, %d, %x): %x, %v; want %x", c.w, c.lo, c.n, c.v, got, e, c.want)
		}
	}
	for _, c := range badFields {
		for _, v := range []uint64{0, 1, math.MaxUint64} {
			if got, e := words.Put(greatest, c.lo, c.n, v); got != nothing || e != api.ErrRange {
				t.Errorf("Put(%x, %d, %d, %x): %x, %v; want %v", greatest, c.lo, c.n, v, got, e, api.ErrRange)
			}
		}
	}
	for n := 1; n < 64; n++ { // a bit too many
		for _, v := range []uint64{1 << n, math.MaxUint64, 1 << 63} {
			if got, e := words.Put(greatest, 3, n, v); got != nothing || e != api.ErrRange {
				t.Errorf("Put(%x, 3, %d, %x): %x, %v; want %v", greatest, n, v, got, e, api.ErrRange)
			}
		}
	}
}

// TestEveryField: Bits and Put, held against big numbers bit by bit.
func TestEveryField(t *testing.T) {
	r := rand.New(rand.NewPCG(2, 78))
	for lo := range 96 {
		for n := 1; n <= 64 && lo+n <= 96; n++ {
			for _, w := range []api.Wide{nothing, greatest, {r.Uint32(), r.Uint32(), r.Uint32()}} {
				most := uint64(math.MaxUint64) >> (64 - n)
				for _, v := range []uint64{0, 1, most, r.Uint64() & most} {
					checkField(t, w, lo, n, v)
				}
			}
		}
	}
}

func checkField(t *testing.T, w api.Wide, lo, n int, v uint64) {
	t.Helper()
	was, will := new(big.Int), whole(w)
	for i := range n {
		was.SetBit(was, i, whole(w).Bit(lo+i))
		will.SetBit(will, lo+i, uint(v>>i&1))
	}
	if got, e := words.Bits(w, lo, n); got != was.Uint64() || e != api.OK {
		t.Fatalf("Bits(%x, %d, %d): %x, %v; want %x", w, lo, n, got, e, was)
	}
	got, e := words.Put(w, lo, n, v)
	if whole(got).Cmp(will) != 0 || e != api.OK {
		t.Fatalf("Put(%x, %d, %d, %x): %x, %v; want %x", w, lo, n, v, got, e, will)
	}
	if back, e := words.Bits(got, lo, n); back != v || e != api.OK {
		t.Fatalf("Bits of what Put(%x, %d, %d, %x) made: %x, %v", w, lo, n, v, back, e)
	}
}
