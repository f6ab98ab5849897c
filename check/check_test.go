package check_test

import (
	"math"
	"math/big"
	"math/rand/v2"
	"strconv"
	"strings"
	"testing"

	"vendmeter/api"
	"vendmeter/check"
)

// pentagon: what two motions make, written out.
var pentagon = [10]string{
	"0123456789",
	"1234067895",
	"2340178956",
	"3401289567",
	"4012395678",
	"5987604321",
	"6598710432",
	"7659821043",
	"8765932104",
	"9876543210",
}

// places: what the digits 0 to 9 are at each of eight places, written out.
var places = [8]string{
	"0123456789",
	"1576283094",
	"5803796142",
	"8916043527",
	"9453126870",
	"4286573901",
	"2793806415",
	"7046913258",
}

// tableSum: the sum of digits, by what is written out.
func tableSum(s string) int {
	sum := byte('0')
	for place := range len(s) {
		digit := s[len(s)-1-place]
		moved := places[place%8][digit-'0']
		sum = pentagon[sum-'0'][moved-'0']
	}
	return int(sum - '0')
}

// texts of digits: all short ones, one digit again and again, and drawn ones of all lengths.
func texts() []string {
	var l []string
	for length, most := 1, 10; length <= 3; length, most = length+1, most*10 {
		for n := range most {
			l = append(l, strconv.Itoa(most + n)[1:])
		}
	}
	r := rand.New(rand.NewPCG(3, 97))
	for length := 1; length <= api.MaxLong; length++ {
		for digit := range 10 {
			l = append(l, strings.Repeat(strconv.Itoa(digit), length))
		}
		for range 5 {
			l = append(l, drawn(r, length))
		}
	}
	return l
}

func drawn(r *rand.Rand, length int) string {
	b := make([]byte, length)
	for i := range b {
		b[i] = '0' + byte(r.IntN(10))
	}
	return string(b)
}

// noMotions: numbers outside 0 to 9, those among them that would be inside as a smaller kind.
var noMotions = []int{-1, -2, -5, -10, 10, 11, 15, 100, 1 << 8, 1<<32 + 3, math.MinInt32, math.MaxInt, math.MinInt}

// flaws: texts that Digit and Rest refuse.
var flaws = []struct {
	s string
	e api.Errno
}{
	{"", api.ErrSize},
	{strings.Repeat("0", api.MaxLong+1), api.ErrSize},
	{strings.Repeat("9", 100000), api.ErrSize},
	{strings.Repeat("x", api.MaxLong+1), api.ErrSize},       // named ahead of ErrDigit
	{strings.Repeat("٣", api.MaxLong/2) + "1", api.ErrSize}, // few letters, but 201 bytes
	{strings.Repeat("\xff", api.MaxLong+1), api.ErrSize},
	{strings.Repeat("x", api.MaxLong), api.ErrDigit},
	{strings.Repeat("٣", api.MaxLong/2), api.ErrDigit},
	{strings.Repeat("1", api.MaxLong-1) + "x", api.ErrDigit},
	{"x" + strings.Repeat("1", api.MaxLong-1), api.ErrDigit},
	{"1x", api.ErrDigit}, {"x1", api.ErrDigit}, {"1x1", api.ErrDigit}, {"-1", api.ErrDigit}, {"+1", api.ErrDigit},
	{" 1", api.ErrDigit}, {"1 ", api.ErrDigit}, {"1\n", api.ErrDigit}, {"\x00", api.ErrDigit}, {"12.3", api.ErrDigit},
	{"236\x00", api.ErrDigit}, {"２３６", api.ErrDigit}, {"1٣", api.ErrDigit}, {"\xff", api.ErrDigit}, {"1\xc3", api.ErrDigit},
	{"İ", api.ErrDigit}, // U+0130, whose lowest byte is that of a digit
}

// eachByte calls with every byte that is no digit, alone, ahead of digits, between them and behind them.
func eachByte(call func(s string)) {
	for b := range 256 {
		if b >= '0' && b <= '9' {
			continue
		}
		odd := string([]byte{byte(b)})
		for _, s := range []string{odd, odd + "236", "23" + odd + "6", "236" + odd} {
			call(s)
		}
	}
}

// P3.1

func TestMul(t *testing.T) {
	for a := range 10 {
		for b := range 10 {
			want := int(pentagon[a][b] - '0')
			if got, e := check.Mul(a, b); got != want || e != api.OK {
				t.Errorf("Mul(%d, %d): %d, %v; want %d", a, b, got, e, want)
			}
		}
	}
}

// TestMulByRule: the four rules as they are said.
func TestMulByRule(t *testing.T) {
	for i := range 5 {
		for j := range 5 {
			for _, c := range []struct{ a, b, want int }{
				{i, j, (i + j) % 5},
				{i, 5 + j, 5 + (i+j)%5},
				{5 + i, j, 5 + (i-j+5)%5},
				{5 + i, 5 + j, (i - j + 5) % 5},
			} {
				if got, e := check.Mul(c.a, c.b); got != c.want || e != api.OK {
					t.Errorf("Mul(%d, %d): %d, %v; want %d", c.a, c.b, got, e, c.want)
				}
			}
		}
	}
}

func TestMulRefuses(t *testing.T) {
	for _, bad := range noMotions {
		for _, other := range append([]int{0, 4, 5, 9}, noMotions...) {
			for _, c := range [][2]int{{bad, other}, {other, bad}} {
				if got, e := check.Mul(c[0], c[1]); got != 0 || e != api.ErrRange {
					t.Errorf("Mul(%d, %d): %d, %v; want 0, %v", c[0], c[1], got, e, api.ErrRange)
				}
			}
		}
	}
}

// P3.2

func TestInv(t *testing.T) {
	for a, want := range []int{0, 4, 3, 2, 1, 5, 6, 7, 8, 9} {
		got, e := check.Inv(a)
		if got != want || e != api.OK {
			t.Errorf("Inv(%d): %d, %v; want %d", a, got, e, want)
		}
		ahead, e := check.Mul(got, a)
		behind, f := check.Mul(a, got)
		if ahead != 0 || behind != 0 || e != api.OK || f != api.OK {
			t.Errorf("%d and Inv of it, %d, make %d, %v and %d, %v", a, got, ahead, e, behind, f)
		}
	}
	for _, a := range noMotions {
		if got, e := check.Inv(a); got != 0 || e != api.ErrRange {
			t.Errorf("Inv(%d): %d, %v; want 0, %v", a, got, e, api.ErrRange)
		}
	}
}

// P3.3

// TestSum: the sum shows in Good alone; a text whose last digit takes all ten values tells what the others make.
func TestSum(t *testing.T) {
	for _, s := range texts() {
		if len(s) < 2 {
			continue
		}
		for digit := range 10 {
			s := s[:len(s)-1] + strconv.Itoa(digit)
			if got, want := check.Good(s), tableSum(s) == 0; got != want {
				t.Fatalf("Good(%q): %v; its sum is %d", s, got, tableSum(s))
			}
		}
	}
}

// TestEachPlace: a digit among noughts, at each place, by the moves as they are said.
func TestEachPlace(t *testing.T) {
	moves := [10]int{1, 5, 7, 6, 2, 8, 3, 0, 9, 4}
	for place := range api.MaxLong - 1 {
		for digit := range 10 {
			s := strconv.Itoa(digit) + strings.Repeat("0", place)
			sum := 0
			for at := range place + 2 { // the digit that is put behind is at 0, as yet a nought
				moved := 0
				if at == place+1 {
					moved = digit
				}
				for range at % 8 {
					moved = moves[moved]
				}
				sum, _ = check.Mul(sum, moved)
			}
			want, _ := check.Inv(sum)
			if got, e := check.Digit(s); got != want || e != api.OK {
				t.Fatalf("Digit(%q): %d, %v; want %d", s, got, e, want)
			}
		}
	}
}

// P3.4

func TestDigit(t *testing.T) {
	for _, c := range []struct {
		s    string
		want int
	}{
		{"236", 3},
		{"12345", 1},
		{"0", 4},
		{"1", 5},
		{"142857", 0},
		{"123456789012", 0},
		{"8473643095483728456789", 2},
	} {
		if got, e := check.Digit(c.s); got != c.want || e != api.OK {
			t.Errorf("Digit(%q): %d, %v; want %d", c.s, got, e, c.want)
		}
	}
}

// TestJustOneDigit: of the ten digits behind a text Digit is the one that makes its sum 0; behind MaxLong digits, too.
func TestJustOneDigit(t *testing.T) {
	for _, s := range texts() {
		got, e := check.Digit(s)
		if e != api.OK {
			t.Fatalf("Digit(%q): %v", s, e)
		}
		for digit := range 10 {
			whole := s + strconv.Itoa(digit)
			if (tableSum(whole) == 0) != (digit == got) {
				t.Fatalf("Digit(%q): %d; the sum of %q is %d", s, got, whole, tableSum(whole))
			}
		}
	}
}

func TestDigitRefuses(t *testing.T) {
	for _, c := range flaws {
		if got, e := check.Digit(c.s); got != 0 || e != c.e {
			t.Errorf("Digit(%q): %d, %v; want 0, %v", c.s, got, e, c.e)
		}
	}
	eachByte(func(s string) {
		if got, e := check.Digit(s); got != 0 || e != api.ErrDigit {
			t.Errorf("Digit(%q): %d, %v; want 0, %v", s, got, e, api.ErrDigit)
		}
	})
}

// P3.5

func TestGood(t *testing.T) {
	for _, s := range []string{"2363", "123451", "04", "15", "1428570"} {
		if !check.Good(s) {
			t.Errorf("Good(%q) does not hold", s)
		}
	}
	for _, s := range []string{"2633", "2364", "3263", "123450", "00", "0", "1", "5"} {
		if check.Good(s) {
			t.Errorf("Good(%q) holds", s)
		}
	}
}

// TestGoodLength: two digits are enough and MaxLong not too many; one is too few, and one more too many.
func TestGoodLength(t *testing.T) {
	r := rand.New(rand.NewPCG(3, 5))
	for length := 2; length <= api.MaxLong+3; length++ {
		for range 5 {
			s := withGood(drawn(r, length-1))
			if got, want := check.Good(s), length <= api.MaxLong; got != want {
				t.Fatalf("Good(%q): %v, of %d digits whose sum is 0", s, got, length)
			}
		}
	}
	for digit := range 10 { // of one digit, 0, the sum is 0, but it stands alone
		if s := strconv.Itoa(digit); check.Good(s) {
			t.Errorf("Good(%q) holds", s)
		}
	}
}

// withGood: the text with the digit behind it that makes the sum 0.
func withGood(s string) string {
	digit := 0
	for tableSum(s+strconv.Itoa(digit)) != 0 {
		digit++
	}
	return s + strconv.Itoa(digit)
}

func TestGoodRefuses(t *testing.T) {
	for _, c := range flaws {
		if check.Good(c.s) {
			t.Errorf("Good(%q) holds", c.s)
		}
	}
	eachByte(func(s string) {
		for digit := range 10 {
			for _, s := range []string{s, s + strconv.Itoa(digit), strconv.Itoa(digit) + s} {
				if check.Good(s) {
					t.Errorf("Good(%q) holds", s)
				}
			}
		}
	})
}

// P3.6

func TestRest(t *testing.T) {
	for _, c := range []struct {
		s    string
		want int
	}{
		{"0", 0}, {"000", 0}, {"9", 9}, {"96", 96}, {"97", 0}, {"98", 1}, {"00098", 1}, {"100", 3}, {"194", 0}, {"1234567890", 2},
		{strings.Repeat("0", api.MaxLong), 0},
		{strings.Repeat("0", api.MaxLong-2) + "96", 96},
		{"1" + strings.Repeat("0", 96), 1}, // 10^96, as 97 is a prime
	} {
		if got, e := check.Rest(c.s); got != c.want || e != api.OK {
			t.Errorf("Rest(%q): %d, %v; want %d", c.s, got, e, c.want)
		}
	}
}

// TestRestWide: held against big numbers.
func TestRestWide(t *testing.T) {
	for _, s := range texts() {
		n, _ := new(big.Int).SetString(s, 10)
		want := n.Mod(n, big.NewInt(97)).Int64()
		if got, e := check.Rest(s); int64(got) != want || e != api.OK {
			t.Fatalf("Rest(%q): %d, %v; want %d", s, got, e, want)
		}
	}
}

func TestRestRefuses(t *testing.T) {
	for _, c := range flaws {
		if got, e := check.Rest(c.s); got != 0 || e != c.e {
			t.Errorf("Rest(%q): %d, %v; want 0, %v", c.s, got, e, c.e)
		}
	}
	eachByte(func(s string) {
		if got, e := check.Rest(s); got != 0 || e != api.ErrDigit {
			t.Errorf("Rest(%q): %d, %v; want 0, %v", s, got, e, api.ErrDigit)
		}
	})
}

// What comes of it.

// TestSlips: each slip that the chapter names is told.
func TestSlips(t *testing.T) {
	r := rand.New(rand.NewPCG(3, 3))
	for _, length := range []int{2, 3, 9, 18, 20, 41, api.MaxLong} {
		for range 10 {
			s := withGood(drawn(r, length-1))
			for i := range s {
				for digit := byte('0'); digit <= '9'; digit++ {
					told(t, s, slip(s, i, digit), true)
				}
				if i+1 < length {
					told(t, s, slip(slip(s, i, s[i+1]), i+1, s[i]), true)
				}
				if i+2 < length {
					told(t, s, slip(slip(s, i, s[i+2]), i+2, s[i]), false)
				}
				if i+1 < length && s[i] == s[i+1] {
					for digit := byte('0'); digit <= '9'; digit++ {
						told(t, s, slip(slip(s, i, digit), i+1, digit), false)
					}
				}
			}
		}
	}
}

// slip: the text with another digit at a place.
func slip(s string, at int, digit byte) string {
	return s[:at] + string([]byte{digit}) + s[at+1:]
}

// told: is a text that became another one told by the rest, and, where it says so, by the sum?
func told(t *testing.T, was, is string, bySum bool) {
	t.Helper()
	if was == is {
		return
	}
	if bySum && check.Good(is) {
		t.Fatalf("Good(%q) holds, and so does Good(%q)", is, was)
	}
	a, _ := check.Rest(was)
	if b, e := check.Rest(is); a == b || e != api.OK {
		t.Fatalf("Rest(%q): %d, %v, as of %q", is, b, e, was)
	}
}
