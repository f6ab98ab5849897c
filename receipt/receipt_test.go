package receipt_test

import (
	"fmt"
	"math"
	"math/big"
	"math/rand/v2"
	"regexp"
	"strconv"
	"strings"
	"sync"
	"testing"

	"vendmeter/account"
	"vendmeter/api"
	"vendmeter/receipt"
	"vendmeter/token"
)

// wrongNumbers: what no number of a receipt may be.
var wrongNumbers = []int{math.MinInt, math.MinInt + 1, math.MinInt32, -100000000, -50, -2, -1, 1 << 31, 1 << 32, 1<<32 + 1, 1 << 62, math.MaxInt - 1, math.MaxInt}

// plain: a receipt that is right, whose numbers all differ.
var plain = api.Receipt{
	Meter: 3,
	Bill:  api.Bill{Id: 1, Tender: 1234, Debt: 200, Fee: 5, Price: 1000, Change: 29, Units: 100},
	Token: "00000013332214186663",
}

// plainPaper: its text.
const plainPaper = "METER 00000000033\n" +
	"NUMBER 1\n" +
	"TENDER 12.34\n" +
	"DEBT 2.00\n" +
	"FEE 0.05\n" +
	"PRICE 10.00\n" +
	"CHANGE 0.29\n" +
	"UNITS 100\n" +
	"TOKEN 0000 0013 3322 1418 6663\n"

// digits of a token, reckoned with wide numbers, whether it may be or not.
func digits(class, id, amount, tag int) string {
	n := big.NewInt(int64(class))
	for _, f := range []struct{ bits, field int }{{20, id}, {21, amount}, {16, tag}} {
		n.Lsh(n, uint(f.bits))
		n.Or(n, big.NewInt(int64(f.field)))
	}
	return fmt.Sprintf("%020d", n.Mul(n, big.NewInt(97)))
}

// of a class: a receipt that is right, with nothing but the token's number and its units.
func of(class, id, amount, tag int) api.Receipt {
	r := api.Receipt{Bill: api.Bill{Id: id}, Token: digits(class, id, amount, tag)}
	if class == api.Credit {
		r.Bill.Units = amount
	}
	return r
}

// with: a receipt, changed.
func with(r api.Receipt, change func(*api.Receipt)) api.Receipt {
	change(&r)
	return r
}

// rights: receipts that are right, from the least numbers to the most.
var rights = []api.Receipt{
	plain,
	of(api.Credit, 1, 1, 0),
	of(api.Credit, 1048575, 2097151, 65535),
	of(api.Clear, 1, 0, 0), of(api.Clear, 1048575, 0, 65535),
	of(api.Change, 1, 1, 0), of(api.Change, 77, 15, 9), of(api.Change, 1048575, 15, 65535),
	of(api.Test, 1, 0, 0), of(api.Test, 1048575, 0, 65535),
	{Meter: 49, Bill: api.Bill{Id: 1048575, Tender: 100000000, Debt: 100000000, Units: 2097151}, Token: digits(api.Credit, 1048575, 2097151, 65535)},
	{Meter: 49, Bill: api.Bill{Id: 1048575, Tender: 100000000, Fee: 100000000, Units: 2097151}, Token: digits(api.Credit, 1048575, 2097151, 0)},
	{Meter: 48, Bill: api.Bill{Id: 1, Tender: 100000000, Price: 100000000, Units: 1}, Token: digits(api.Credit, 1, 1, 65535)},
	{Meter: 1, Bill: api.Bill{Id: 10, Tender: 100000000, Change: 100000000, Units: 10}, Token: digits(api.Credit, 10, 10, 10)},
	{Meter: 10, Bill: api.Bill{Id: 100, Tender: 100000000, Debt: 25000000, Fee: 25000000, Price: 25000000, Change: 25000000}, Token: digits(api.Test, 100, 0, 1)},
	{Meter: 20, Bill: api.Bill{Id: 5, Tender: 4, Debt: 1, Fee: 1, Price: 1, Change: 1, Units: 7}, Token: digits(api.Credit, 5, 7, 100)},
}

// sumOf digits as chapter 3 tells it, place by place.
func sumOf(s string) int {
	moves := []int{1, 5, 7, 6, 2, 8, 3, 0, 9, 4}
	sum := 0
	for place := range len(s) {
		d := int(s[len(s)-1-place] - '0')
		for range place % 8 {
			d = moves[d]
		}
		i, j := sum%5, d%5
		switch {
		case sum < 5 && d < 5:
			sum = (i + j) % 5
		case sum < 5:
			sum = 5 + (i+j)%5
		case d < 5:
			sum = 5 + (i-j+5)%5
		default:
			sum = (i - j + 5) % 5
		}
	}
	return sum
}

// numberOf: ten digits, and the one that makes their sum 0.
func numberOf(n int) string {
	for last := range 10 {
		if s := fmt.Sprintf("%010d%d", n, last); sumOf(s) == 0 {
			return s
		}
	}
	return ""
}

// paperOf a receipt, whether it is right or not.
func paperOf(r api.Receipt) string {
	money := func(n int) string { return fmt.Sprintf("%d.%02d", n/100, n%100) }
	b, s := r.Bill, r.Token
	return fmt.Sprintf("METER %s\nNUMBER %d\nTENDER %s\nDEBT %s\nFEE %s\nPRICE %s\nCHANGE %s\nUNITS %d\nTOKEN %s %s %s %s %s\n",
		numberOf(r.Meter), b.Id, money(b.Tender), money(b.Debt), money(b.Fee), money(b.Price), money(b.Change), b.Units, s[:4], s[4:8], s[8:12], s[12:16], s[16:])
}

// said: what twenty digits say, reckoned with wide numbers; and why they are no token.
func said(s string) (class, id, amount int, e api.Errno) {
	if len(s) != 20 {
		return 0, 0, 0, api.ErrLength
	}
	if strings.ContainsFunc(s, func(r rune) bool { return r < '0' || r > '9' }) {
		return 0, 0, 0, api.ErrDigit
	}
	n, _ := new(big.Int).SetString(s, 10)
	if n.BitLen() > 66 {
		return 0, 0, 0, api.ErrRange
	}
	rest := new(big.Int)
	if n.DivMod(n, big.NewInt(97), rest); rest.Sign() != 0 {
		return 0, 0, 0, api.ErrCheck
	}
	all := n.Uint64()
	class, id, amount = int(all>>57), int(all>>37&(1<<20-1)), int(all>>16&(1<<21-1))
	most := []int{2097151, 0, 15, 0, -1, -1, -1, -1}[class]
	least := min(1, most)
	if id < 1 || amount < least || amount > most {
		return 0, 0, 0, api.ErrRange
	}
	return class, id, amount, api.OK
}

// flawOf a receipt: the promise by its words.
func flawOf(r api.Receipt) api.Errno {
	if r.Meter < 0 || r.Meter > 49 {
		return api.ErrNoMeter
	}
	b := r.Bill
	for _, n := range []int{b.Tender, b.Debt, b.Fee, b.Price, b.Change} {
		if n < 0 || n > 100000000 {
			return api.ErrRange
		}
	}
	if b.Id < 1 || b.Id > 1048575 || b.Units < 0 || b.Units > 2097151 {
		return api.ErrRange
	}
	if b.Tender != b.Debt+b.Fee+b.Price+b.Change {
		return api.ErrTender
	}
	class, id, amount, e := said(r.Token)
	if e != api.OK {
		return e
	}
	if class != api.Credit {
		amount = 0
	}
	if id != b.Id || amount != b.Units {
		return api.ErrCheck
	}
	return api.OK
}

// form of the text of a receipt, of whole numbers and amounts that an int holds.
var form = regexp.MustCompile(strings.NewReplacer("AMOUNT", `((?:0|[1-9][0-9]{0,9})\.[0-9]{2})`, "COUNT", `(0|[1-9][0-9]{0,9})`).Replace(
	`\AMETER ([0-9]{11})\nNUMBER COUNT\nTENDER AMOUNT\nDEBT AMOUNT\nFEE AMOUNT\nPRICE AMOUNT\nCHANGE AMOUNT\nUNITS COUNT\nTOKEN ([0-9]{4}(?: [0-9]{4}){4})\n\z`))

// readSlowly: by the form of the whole text.
func readSlowly(s string) (api.Receipt, api.Errno) {
	if len(s) > 400 {
		return api.Receipt{}, api.ErrSize
	}
	l := form.FindStringSubmatch(s)
	if l == nil || sumOf(l[1]) != 0 {
		return api.Receipt{}, api.ErrForm
	}
	n := make([]int, len(l))
	for i, part := range l[1:9] {
		n[i+1], _ = strconv.Atoi(strings.Replace(part, ".", "", 1))
	}
	r := api.Receipt{
		Meter: n[1] / 10,
		Bill:  api.Bill{Id: n[2], Tender: n[3], Debt: n[4], Fee: n[5], Price: n[6], Change: n[7], Units: n[8]},
		Token: strings.ReplaceAll(l[9], " ", ""),
	}
	if flawOf(r) != api.OK {
		return api.Receipt{}, api.ErrForm
	}
	return r, api.OK
}

// reads: is the text read as it should be?
func reads(t *testing.T, s string, want api.Receipt, e api.Errno) {
	t.Helper()
	if got, f := receipt.Read(s); got != want || f != e {
		t.Errorf("Read(%q): %v, %v; want %v, %v", s, got, f, want, e)
	}
}

// checks: is the receipt checked, and shown, as it should be?
func checks(t *testing.T, r api.Receipt, want api.Errno) {
	t.Helper()
	if e := receipt.Check(r); e != want {
		t.Errorf("Check(%v): %v, want %v", r, e, want)
	}
	text := ""
	if want == api.OK {
		text = paperOf(r)
	}
	if s, e := receipt.Show(r); s != text || e != want {
		t.Errorf("Show(%v): %q, %v; want %q, %v", r, s, e, text, want)
	}
}

// drawn: a receipt that is right.
func drawn(d *rand.Rand) api.Receipt {
	class, id, tag := d.IntN(4), 1+d.IntN(1048575)>>d.IntN(20), d.IntN(65536)
	amount := []int{1 + d.IntN(2097151)>>d.IntN(21), 0, 1 + d.IntN(15), 0}[class]
	r := of(class, id, amount, tag)
	r.Meter = d.IntN(50)
	b := &r.Bill
	for _, n := range []*int{&b.Debt, &b.Fee, &b.Price, &b.Change} {
		*n = d.IntN(25000001) >> d.IntN(26)
	}
	b.Tender = b.Debt + b.Fee + b.Price + b.Change
	return r
}

// P16.1

func TestNumber(t *testing.T) {
	for meter := range 50 {
		if s, e := receipt.Number(meter); s != numberOf(meter) || e != api.OK {
			t.Errorf("Number(%d): %q, %v; want %q", meter, s, e, numberOf(meter))
		}
	}
	for _, c := range []struct {
		meter int
		want  string
	}{{0, "0000000000"}, {3, "0000000003"}, {9, "0000000009"}, {10, "0000000010"}, {49, "0000000049"}} {
		if s, _ := receipt.Number(c.meter); len(s) != 11 || s[:10] != c.want {
			t.Errorf("Number(%d): %q, want %q and a digit", c.meter, s, c.want)
		}
	}
}

func TestNumberOfNoMeter(t *testing.T) {
	for _, meter := range append([]int{50, 51, 100, 9999999999, 10000000000, 10000000003}, wrongNumbers...) {
		if s, e := receipt.Number(meter); s != "" || e != api.ErrNoMeter {
			t.Errorf("Number(%d): %q, %v; want %v", meter, s, e, api.ErrNoMeter)
		}
	}
}

// P16.2

func TestMeter(t *testing.T) {
	for meter := range 50 {
		if got, e := receipt.Meter(numberOf(meter)); got != meter || e != api.OK {
			t.Errorf("Meter(%q): %d, %v; want %d", numberOf(meter), got, e, meter)
		}
	}
}

func TestMeterRefuses(t *testing.T) {
	third := numberOf(3)
	for _, c := range []struct {
		number string
		want   api.Errno
	}{
		{"", api.ErrLength}, {"3", api.ErrLength}, {"0000000003", api.ErrLength}, {third[1:], api.ErrLength}, {"0" + third, api.ErrLength}, {third + "0", api.ErrLength},
		{third + "\n", api.ErrLength}, {" " + third, api.ErrLength}, {third + third, api.ErrLength}, {strings.Repeat("0", 200), api.ErrLength}, {strings.Repeat("0", 100000), api.ErrLength},
		{"x", api.ErrLength}, {"000000000xxx", api.ErrLength}, {"٣٣٣٣٣٣٣٣٣٣٣", api.ErrLength}, // named ahead of ErrDigit
		{"0000000000x", api.ErrDigit}, {"x0000000000", api.ErrDigit}, {"-0000000003", api.ErrDigit}, {"+0000000003", api.ErrDigit}, {"00000 00003", api.ErrDigit},
		{"0000000003\n", api.ErrDigit}, {"0000000003/", api.ErrDigit}, {"0000000003:", api.ErrDigit}, {"0000000003\x00", api.ErrDigit}, {"\xff\xff\xff\xff\xff\xff\xff\xff\xff\xff\xff", api.ErrDigit},
		{"000000000٣", api.ErrDigit}, {"00000000３", api.ErrDigit}, {"9999999999x", api.ErrDigit}, {"0x000000033", api.ErrDigit}, {"0000_000033", api.ErrDigit},
		{"00000000031", api.ErrCheck}, {"99999999990", api.ErrCheck}, {"12345678900", api.ErrCheck}, // no meters' either: named behind ErrCheck
		{numberOf(50), api.ErrNoMeter}, {numberOf(51), api.ErrNoMeter}, {numberOf(100), api.ErrNoMeter}, {numberOf(1<<32 + 3), api.ErrNoMeter},
		{numberOf(1234567890), api.ErrNoMeter}, {numberOf(9999999999), api.ErrNoMeter}, {numberOf(5000000000), api.ErrNoMeter}, {numberOf(1 << 31), api.ErrNoMeter},
	} {
		if got, e := receipt.Meter(c.number); got != 0 || e != c.want {
			t.Errorf("Meter(%.40q): %d, %v; want %v", c.number, got, e, c.want)
		}
	}
}

// TestMeterByteByByte: at each place each byte, in a number of a meter and of none.
func TestMeterByteByByte(t *testing.T) {
	for _, n := range []int{0, 7, 49, 50, 9999999999} {
		for place := range 11 {
			for b := range 256 {
				s := []byte(numberOf(n))
				was := s[place]
				s[place] = byte(b)
				want, e := 0, api.ErrCheck
				switch {
				case b < '0' || b > '9':
					e = api.ErrDigit
				case byte(b) == was && n < 50:
					want, e = n, api.OK
				case byte(b) == was:
					e = api.ErrNoMeter
				}
				if got, f := receipt.Meter(string(s)); got != want || f != e {
					t.Errorf("Meter(%q): %d, %v; want %d, %v", s, got, f, want, e)
				}
			}
		}
	}
}

func TestMeterDrawn(t *testing.T) {
	d := rand.New(rand.NewPCG(16, 2))
	for range 5000 {
		n := d.IntN(10000000000) >> d.IntN(34)
		s := fmt.Sprintf("%010d%d", n, d.IntN(10))
		want, e := 0, api.ErrCheck
		switch {
		case s == numberOf(n) && n < 50:
			want, e = n, api.OK
		case s == numberOf(n):
			e = api.ErrNoMeter
		}
		if got, f := receipt.Meter(s); got != want || f != e {
			t.Fatalf("Meter(%q): %d, %v; want %d, %v", s, got, f, want, e)
		}
	}
}

// TestSlipsNameNoMeter: one wrong digit, or any two that changed places.
func TestSlipsNameNoMeter(t *testing.T) {
	for meter := range 50 {
		number, _ := receipt.Number(meter)
		for i := range number {
			for b := byte('0'); b <= '9'; b++ {
				s := []byte(number)
				s[i] = b
				if got, e := receipt.Meter(string(s)); string(s) != number && (got != 0 || e == api.OK) {
					t.Errorf("Meter(%q), once %q: %d, %v", s, number, got, e)
				}
			}
			for j := range number {
				s := []byte(number)
				s[i], s[j] = s[j], s[i]
				if got, e := receipt.Meter(string(s)); string(s) != number && (got != 0 || e == api.OK) {
					t.Errorf("Meter(%q), once %q: %d, %v", s, number, got, e)
				}
			}
		}
	}
}

// P16.3

func TestRight(t *testing.T) {
	for _, r := range rights {
		checks(t, r, api.OK)
	}
}

func TestNoMeter(t *testing.T) {
	for _, meter := range append([]int{50, 51, 1000}, wrongNumbers...) {
		checks(t, with(plain, func(r *api.Receipt) { r.Meter = meter }), api.ErrNoMeter)
		// Whatever else is wrong, as it is named first.
		checks(t, api.Receipt{Meter: meter}, api.ErrNoMeter)
		checks(t, api.Receipt{Meter: meter, Bill: api.Bill{Id: 1, Tender: 5}, Token: "x"}, api.ErrNoMeter)
	}
}

// amounts of a bill.
var amounts = []func(*api.Receipt) *int{
	func(r *api.Receipt) *int { return &r.Bill.Tender },
	func(r *api.Receipt) *int { return &r.Bill.Debt },
	func(r *api.Receipt) *int { return &r.Bill.Fee },
	func(r *api.Receipt) *int { return &r.Bill.Price },
	func(r *api.Receipt) *int { return &r.Bill.Change },
}

func TestNumbersOutOfRange(t *testing.T) {
	try := func(field func(*api.Receipt) *int, more ...int) {
		t.Helper()
		for _, n := range append(more, wrongNumbers...) {
			for _, r := range rights {
				r.Meter = 7
				*field(&r) = n
				checks(t, r, api.ErrRange)
				r.Token = "1" // named behind it
				checks(t, r, api.ErrRange)
			}
		}
	}
	for _, field := range amounts {
		try(field, 100000001, 100000002)
	}
	try(func(r *api.Receipt) *int { return &r.Bill.Id }, 0, 1048576, 1048577)
	try(func(r *api.Receipt) *int { return &r.Bill.Units }, 2097152, 2097153)
}

// TestRangeThatAddsUp: a number out of its bounds is refused though the amounts add up.
func TestRangeThatAddsUp(t *testing.T) {
	const over = 100000001
	for _, b := range []api.Bill{
		{Tender: over, Debt: over}, {Tender: over, Fee: over}, {Tender: over, Price: over}, {Tender: over, Change: over},
		{Tender: over, Debt: 50000000, Price: 50000001}, {Tender: 400000000, Debt: 100000000, Fee: 100000000, Price: 100000000, Change: 100000000},
		{Debt: 1, Fee: -1}, {Fee: 1, Price: -1}, {Price: 1, Change: -1}, {Change: 1, Debt: -1}, {Tender: -1, Debt: -1}, {Tender: 5, Price: 6, Change: -1},
		{Tender: 100000000, Price: over, Change: -1}, {Debt: math.MinInt, Fee: math.MinInt}, {Tender: math.MinInt, Debt: math.MinInt},
		{Tender: -2, Debt: math.MaxInt, Fee: math.MaxInt}, {Debt: 1 << 62, Fee: 1 << 62, Price: 1 << 62, Change: 1 << 62},
	} {
		b.Id = 1
		checks(t, api.Receipt{Bill: b, Token: digits(api.Test, 1, 0, 5)}, api.ErrRange)
	}
}

func TestTenderThatDoesNotAddUp(t *testing.T) {
	for _, r := range rights {
		for _, field := range amounts {
			for _, by := range []int{-1, 1, -100, 100, 1000000} {
				wrong := r
				if *field(&wrong) += by; *field(&wrong) >= 0 && *field(&wrong) <= 100000000 {
					checks(t, wrong, api.ErrTender)
					wrong.Token = "" // named behind it
					checks(t, wrong, api.ErrTender)
					wrong.Token, wrong.Bill.Units = r.Token, 77777
					checks(t, wrong, api.ErrTender)
				}
			}
		}
	}
	checks(t, api.Receipt{Bill: api.Bill{Id: 1, Tender: 5}}, api.ErrTender)
	checks(t, api.Receipt{Bill: api.Bill{Id: 1, Debt: 5}}, api.ErrTender)
	checks(t, api.Receipt{Bill: api.Bill{Id: 1, Tender: 100000000, Debt: 100000000, Fee: 100000000, Price: 100000000, Change: 100000000}}, api.ErrTender)
}

func TestTokenThatIsNone(t *testing.T) {
	for _, c := range []struct {
		token string
		want  api.Errno
	}{
		{"", api.ErrLength}, {"1", api.ErrLength}, {"0000001333221418666", api.ErrLength}, {"000000133322141866630", api.ErrLength}, {"0000 0013 3322 1418 6663", api.ErrLength},
		{"x", api.ErrLength}, {strings.Repeat("0", 100000), api.ErrLength},
		{"0000001333221418666x", api.ErrDigit}, {"x0000013332214186663", api.ErrDigit}, {" 0000013332214186663", api.ErrDigit}, {"0000 013332214186663", api.ErrDigit},
		{"000000133322141866\xff3", api.ErrDigit}, {"000000133322141866٣", api.ErrDigit}, {"9999999999999999999x", api.ErrDigit},
		{"99999999999999999999", api.ErrRange}, {"73786976294838206464", api.ErrRange},
		{"00000013332214186664", api.ErrCheck}, {"00000013332214186636", api.ErrCheck}, {"00000000000000000001", api.ErrCheck}, {"73786976294838206463", api.ErrCheck},
		{"00000000000000000000", api.ErrRange}, {digits(4, 1, 0, 0), api.ErrRange}, {digits(api.Credit, 1, 0, 5), api.ErrRange}, {digits(api.Clear, 1, 1, 5), api.ErrRange},
		{digits(api.Change, 1, 0, 5), api.ErrRange}, {digits(api.Change, 1, 16, 5), api.ErrRange}, {digits(api.Test, 1, 1, 5), api.ErrRange}, {digits(api.Credit, 0, 100, 5), api.ErrRange},
	} {
		checks(t, with(plain, func(r *api.Receipt) { r.Token = c.token }), c.want)
		checks(t, api.Receipt{Bill: api.Bill{Id: 1}, Token: c.token}, c.want)
	}
}

func TestTokenOfAnotherSale(t *testing.T) {
	for _, r := range []api.Receipt{
		with(plain, func(r *api.Receipt) { r.Bill.Id = 2 }),
		with(plain, func(r *api.Receipt) { r.Bill.Id = 1048575 }),
		with(plain, func(r *api.Receipt) { r.Bill.Units = 0 }),
		with(plain, func(r *api.Receipt) { r.Bill.Units = 99 }),
		with(plain, func(r *api.Receipt) { r.Bill.Units = 101 }),
		with(plain, func(r *api.Receipt) { r.Bill.Units = 2097151 }),
		with(plain, func(r *api.Receipt) { r.Token = digits(api.Credit, 2, 100, 7) }),
		with(plain, func(r *api.Receipt) { r.Token = digits(api.Credit, 1, 101, 7) }),
		with(plain, func(r *api.Receipt) { r.Token = digits(api.Credit, 100, 1, 7) }),
		with(plain, func(r *api.Receipt) { r.Token = digits(api.Test, 1, 0, 7) }),
		with(of(api.Clear, 5, 0, 7), func(r *api.Receipt) { r.Bill.Units = 1 }),
		with(of(api.Clear, 5, 0, 7), func(r *api.Receipt) { r.Bill.Id = 6 }),
		with(of(api.Test, 5, 0, 7), func(r *api.Receipt) { r.Bill.Units = 2097151 }),
		with(of(api.Test, 5, 0, 7), func(r *api.Receipt) { r.Bill.Id = 4 }),
		with(of(api.Change, 5, 15, 7), func(r *api.Receipt) { r.Bill.Units = 15 }), // its amount is a key's, and no units
		with(of(api.Change, 5, 1, 7), func(r *api.Receipt) { r.Bill.Units = 1 }),
		with(of(api.Change, 5, 1, 7), func(r *api.Receipt) { r.Bill.Id = 1 }),
	} {
		checks(t, r, api.ErrCheck)
	}
	// The tag alone is nobody's to check.
	checks(t, with(plain, func(r *api.Receipt) { r.Token = digits(api.Credit, 1, 100, 8) }), api.OK)
}

// TestCheckDrawn: right ones, and ones with a part or two of another.
func TestCheckDrawn(t *testing.T) {
	d := rand.New(rand.NewPCG(16, 3))
	seen := map[api.Errno]int{}
	for range 20000 {
		r, other := drawn(d), drawn(d)
		for range d.IntN(3) {
			switch d.IntN(8) {
			case 0:
				r.Meter = d.IntN(60) - 5
			case 1:
				r.Token = other.Token
			case 2:
				r.Token = digits(d.IntN(8), r.Bill.Id, d.IntN(20), d.IntN(65536))
			case 3:
				r.Bill.Units = []int{other.Bill.Units, -1, 2097152, 0}[d.IntN(4)]
			case 4:
				r.Bill.Id = []int{other.Bill.Id, -1, 1048576, 0}[d.IntN(4)]
			default:
				*amounts[d.IntN(5)](&r) += []int{-1, 1, 100000000, -100000000, d.IntN(50)}[d.IntN(5)]
			}
		}
		want := flawOf(r)
		seen[want]++
		checks(t, r, want)
	}
	for _, e := range []api.Errno{api.OK, api.ErrNoMeter, api.ErrRange, api.ErrTender, api.ErrCheck} {
		if seen[e] < 100 {
			t.Errorf("%v was drawn %d times only", e, seen[e])
		}
	}
}

// P16.4

func TestShow(t *testing.T) {
	for _, c := range []struct {
		r    api.Receipt
		want string
	}{
		{plain, plainPaper},
		{of(api.Test, 1, 0, 0), "METER 00000000005\nNUMBER 1\nTENDER 0.00\nDEBT 0.00\nFEE 0.00\nPRICE 0.00\nCHANGE 0.00\nUNITS 0\nTOKEN 4193 7533 0616 5254 5536\n"},
		{rights[10], "METER 00000000495\nNUMBER 1048575\nTENDER 1000000.00\nDEBT 1000000.00\nFEE 0.00\nPRICE 0.00\nCHANGE 0.00\nUNITS 2097151\nTOKEN 1397 9173 2433 5801 9487\n"},
	} {
		if s, e := receipt.Show(c.r); s != c.want || e != api.OK {
			t.Errorf("Show(%v): %q, %v; want %q", c.r, s, e, c.want)
		}
	}
}

// P16.5

func TestRead(t *testing.T) {
	reads(t, plainPaper, plain, api.OK)
	for _, r := range rights {
		reads(t, paperOf(r), r, api.OK)
	}
}

func TestReadTooMuch(t *testing.T) {
	for _, n := range []int{401, 402, 1000, 100000} {
		reads(t, strings.Repeat("x", n), api.Receipt{}, api.ErrSize)
		reads(t, strings.Repeat("\n", n), api.Receipt{}, api.ErrSize)
		reads(t, plainPaper+strings.Repeat("\n", n-len(plainPaper)), api.Receipt{}, api.ErrSize)
		reads(t, strings.Repeat("\xff", n), api.Receipt{}, api.ErrSize)
	}
	for _, n := range []int{0, 1, 2, 399, 400} {
		reads(t, strings.Repeat("x", n), api.Receipt{}, api.ErrForm)
		reads(t, strings.Repeat("\n", n), api.Receipt{}, api.ErrForm)
		reads(t, strings.Repeat(" ", n), api.Receipt{}, api.ErrForm)
		reads(t, strings.Repeat("é", n/2), api.Receipt{}, api.ErrForm)
	}
	reads(t, plainPaper+strings.Repeat("\n", 400-len(plainPaper)), api.Receipt{}, api.ErrForm)
}

// TestReadOfNoReceipt: the plain one, with a piece of it in another way.
func TestReadOfNoReceipt(t *testing.T) {
	for _, c := range []struct{ was, is string }{
		{"METER 00000000033", "METER 0000000003"}, {"METER 00000000033", "METER 3"}, {"METER 00000000033", "METER 00000000031"}, {"METER 00000000033", "METER " + numberOf(50)},
		{"METER 00000000033", "METER 000000000033"}, {"METER 00000000033", "METER 0000 0000 033"}, {"METER 00000000033", "METER "}, {"METER 00000000033", "METER"}, {"METER 00000000033", "METER x"},
		{"METER", "meter"}, {"METER", "Meter"}, {"METER ", "METER"}, {"METER ", "METER  "}, {"METER ", "METER\t"}, {"METER ", " METER "}, {"METER", "MÉTER"}, {"METER ", "METER\u00a0"},
		{"NUMBER 1", "NUMBER 01"}, {"NUMBER 1", "NUMBER +1"}, {"NUMBER 1", "NUMBER -1"}, {"NUMBER 1", "NUMBER 0"}, {"NUMBER 1", "NUMBER 2"}, {"NUMBER 1", "NUMBER 1.00"}, {"NUMBER 1", "NUMBER"},
		{"NUMBER 1", "NUMBER "}, {"NUMBER 1", "NUMBER 1 "}, {"NUMBER 1", "NUMBER 0x1"}, {"NUMBER 1", "NUMBER 18446744073709551617"}, {"NUMBER 1", "NUMBER 4294967297"}, {"NUMBER 1", "NUMBER ١"},
		{"TENDER 12.34", "TENDER 12.33"}, {"TENDER 12.34", "TENDER 012.34"}, {"TENDER 12.34", "TENDER +12.34"}, {"TENDER 12.34", "TENDER 12,34"}, {"TENDER 12.34", "TENDER 1234"}, {"TENDER 12.34", "TENDER 12.340"},
		{"TENDER 12.34", "TENDER -12.34"}, {"TENDER 12.34", "TENDER 99999999999999999999.99"}, {"TENDER 12.34", "TENDER 184467440737095528.50"}, {"TENDER 12.34", "TENDER"}, {"TENDER 12.34", "TENDER 1000000.01"},
		{"DEBT 2.00", "DEBT 2"}, {"DEBT 2.00", "DEBT 2.0"}, {"DEBT 2.00", "DEBT 02.00"}, {"DEBT 2.00", "DEBT 1.99"}, {"DEBT 2.00\n", ""}, {"DEBT 2.00", "DEBT 2.00\nDEBT 2.00"}, {"DEBT 2.00", "DEBTS 2.00"},
		{"FEE 0.05", "FEE .05"}, {"FEE 0.05", "FEE 0.5"}, {"FEE 0.05", "FEE 00.05"}, {"FEE 0.05", "FEE -0.05"}, {"FEE 0.05", "FEE 0.06"}, {"FEE 0.05", "FEE 5"}, {"FEE 0.05\n", "FEE 0.05\r\n"},
		{"PRICE 10.00", "PRICE 10"}, {"PRICE 10.00", "PRICE 1e1.00"}, {"PRICE 10.00", "PRICE 10.01"}, {"PRICE 10.00\nCHANGE 0.29\n", "CHANGE 0.29\nPRICE 10.00\n"}, {"PRICE 10.00\n", "PRICE 10.00\n\n"},
		{"CHANGE 0.29", "CHANGE 0.28"}, {"CHANGE 0.29", "CHANGE 0.30"}, {"CHANGE 0.29", "CHANGE 0.00"}, {"CHANGE 0.29", "CHANGE -0.29"}, {"CHANGE 0.29", "CHANGE 29"}, {"CHANGE 0.29", "CHANGE ０.29"},
		{"UNITS 100", "UNITS 0100"}, {"UNITS 100", "UNITS +100"}, {"UNITS 100", "UNITS 101"}, {"UNITS 100", "UNITS 0"}, {"UNITS 100", "UNITS -0"}, {"UNITS 100", "UNITS 100.00"}, {"UNITS 100", "UNITS 1_00"},
		{"0000 0013 3322 1418 6663", "00000013332214186663"}, {"0000 0013", "0000  0013"}, {"0000 0013", "00000 013"}, {"0000 0013", "0000-0013"}, {"0000 0013", "0013"}, {"0000 0013", " 0000 0013"},
		{"6663\n", "6664\n"}, {"6663\n", "6636\n"}, {"6663\n", "6663 \n"}, {"6663\n", "6663"}, {"6663\n", "6663\n\n"}, {"6663\n", "6663\r\n"}, {"6663\n", "6663\nTOKEN"}, {"6663\n", "6663\nMORE 1\n"}, {"6663\n", "6663\n\x00"},
		{"\n", " \n"}, {"\n", "\r\n"}, {"\n", ""}, {"\n", "\n\n"}, {" ", ""}, {" ", "  "}, {" ", ": "}, {".", ","},
		{"METER", "\ufeffMETER"}, {"METER", "\nMETER"}, {plainPaper, ""}, {plainPaper, plainPaper + plainPaper}, {plainPaper, strings.ToLower(plainPaper)},
	} {
		for _, n := range []int{1, -1} {
			s := strings.Replace(plainPaper, c.was, c.is, n)
			if s == plainPaper {
				t.Fatalf("%q for %q changes nothing", c.is, c.was)
			}
			reads(t, s, api.Receipt{}, api.ErrForm)
		}
	}
}

// TestReadOfLines: in any other order, with one missing, with one twice.
func TestReadOfLines(t *testing.T) {
	for _, paper := range []string{plainPaper, paperOf(rights[1]), paperOf(rights[8])} {
		l := strings.SplitAfter(strings.TrimSuffix(paper, "\n"), "\n")
		l[8] += "\n"
		for i := range l {
			reads(t, strings.Join(l[:i], ""), api.Receipt{}, api.ErrForm)
			reads(t, strings.Join(l[:i], "")+strings.Join(l[i+1:], ""), api.Receipt{}, api.ErrForm)
			for j := range l {
				reads(t, strings.Join(l[:j], "")+l[i]+strings.Join(l[j:], ""), api.Receipt{}, api.ErrForm)
				if i != j {
					l[i], l[j] = l[j], l[i]
					reads(t, strings.Join(l, ""), api.Receipt{}, api.ErrForm)
					l[i], l[j] = l[j], l[i]
				}
			}
		}
	}
}

// TestReadOfReceiptsThatAreNotRight: their text is in form, but they have none.
func TestReadOfReceiptsThatAreNotRight(t *testing.T) {
	for _, r := range []api.Receipt{
		with(plain, func(r *api.Receipt) { r.Meter = 50 }),
		with(plain, func(r *api.Receipt) { r.Meter = 9999999999 }),
		with(plain, func(r *api.Receipt) { r.Bill.Change = 30 }),
		with(plain, func(r *api.Receipt) { r.Bill.Tender = 1235 }),
		with(plain, func(r *api.Receipt) { r.Bill.Tender, r.Bill.Price = 100000001, 100000001-234 }),
		with(plain, func(r *api.Receipt) { r.Bill.Id = 2 }),
		with(plain, func(r *api.Receipt) { r.Bill.Units = 99 }),
		with(plain, func(r *api.Receipt) { r.Token = "00000013332214186664" }),
		with(plain, func(r *api.Receipt) { r.Token = "99999999999999999999" }),
		with(plain, func(r *api.Receipt) { r.Token = digits(api.Change, 1, 15, 7) }),
		with(of(api.Change, 5, 15, 7), func(r *api.Receipt) { r.Bill.Units = 15 }),
		with(of(api.Test, 5, 0, 7), func(r *api.Receipt) { r.Bill.Units = 2097152 }),
		with(of(api.Test, 5, 0, 7), func(r *api.Receipt) { r.Bill.Id, r.Token = 0, digits(api.Test, 0, 0, 7) }),
	} {
		reads(t, paperOf(r), api.Receipt{}, api.ErrForm)
	}
}

// TestReadByteByByte: one byte is another one, is missing, or is there beside the others.
func TestReadByteByByte(t *testing.T) {
	for _, paper := range []string{plainPaper, paperOf(rights[10]), paperOf(rights[3])} {
		for i := range len(paper) + 1 {
			for b := range 256 {
				more := paper[:i] + string([]byte{byte(b)}) + paper[i:]
				reads(t, more, api.Receipt{}, api.ErrForm)
				if i < len(paper) && paper[i] != byte(b) {
					reads(t, paper[:i]+string([]byte{byte(b)})+paper[i+1:], api.Receipt{}, api.ErrForm)
				}
			}
			if i < len(paper) {
				reads(t, paper[:i]+paper[i+1:], api.Receipt{}, api.ErrForm)
			}
		}
	}
}

// texts: what stands behind the names of a right receipt's paper.
func texts(r api.Receipt) []string {
	var l []string
	for line := range strings.Lines(paperOf(r)) {
		_, text, _ := strings.Cut(line, " ")
		l = append(l, text)
	}
	return l
}

// TestReadDrawn: papers with pieces of other ones, each held against its form.
func TestReadDrawn(t *testing.T) {
	names := []string{"METER ", "NUMBER ", "TENDER ", "DEBT ", "FEE ", "PRICE ", "CHANGE ", "UNITS ", "TOKEN "}
	d := rand.New(rand.NewPCG(16, 5))
	right := 0
	for range 20000 {
		l, other := texts(drawn(d)), texts(drawn(d))
		for range d.IntN(3) {
			i, j := d.IntN(9), d.IntN(9)
			switch d.IntN(6) {
			case 0:
				l[0] = other[0] // another meter's: right still
			case 1:
				i, j = 3+d.IntN(4), 3+d.IntN(4) // amounts that change places add up still
				l[i], l[j] = l[j], l[i]
			case 2:
				l[i], l[j] = l[j], l[i]
			case 3:
				l[i] = other[i]
			case 4:
				l[i] = l[i][:d.IntN(len(l[i])+1)] + other[i][d.IntN(len(other[i])):]
			case 5:
				l[i] = "0" + l[i]
			}
		}
		s := ""
		for i, text := range l {
			s += names[i] + text
		}
		want, e := readSlowly(s)
		if e == api.OK {
			right++
		}
		reads(t, s, want, e)
	}
	if right < 1000 || right > 19000 {
		t.Errorf("%d of 20000 texts were right", right)
	}
}

// What comes of it: what is on paper is read as it was.

func TestShownIsRead(t *testing.T) {
	d := rand.New(rand.NewPCG(16, 6))
	for range 5000 {
		r := drawn(d)
		s, e := receipt.Show(r)
		if s != paperOf(r) || e != api.OK || len(s) > 400 {
			t.Fatalf("Show(%v): %q, %v; want %q", r, s, e, paperOf(r))
		}
		reads(t, s, r, api.OK)
	}
}

// TestSalesOnPaper: what accounts are billed goes on paper with its token, and comes back.
func TestSalesOnPaper(t *testing.T) {
	terms := api.Terms{Tariff: []api.Step{{Upto: 50, Price: 10}, {Upto: 10000000, Price: 15}}, FeeFix: 5, FeeBp: 100, DebtBp: 5000, Allowance: 50}
	a, _ := account.Open(7)
	a, _ = account.Owe(a, api.Debt{Owed: 300})
	var bills []api.Bill
	var tokens []api.Token
	add := func(b api.Bill, class, amount int) {
		bills, tokens = append(bills, b), append(tokens, api.Token{Class: class, Id: b.Id, Amount: amount, Tag: b.Id * 11})
	}
	for month := range 5 {
		var b api.Bill
		a, b, _ = account.Sell(a, terms, 1000+month, month)
		add(b, api.Credit, b.Units)
		a, b, _ = account.Grant(a, terms, month)
		add(b, api.Credit, b.Units)
		a, b, _ = account.Rekey(a)
		add(b, api.Change, a.Rev)
	}
	for i, b := range bills {
		s, e := token.Format(tokens[i])
		if e != api.OK {
			t.Fatalf("Format(%v): %v", tokens[i], e)
		}
		r := api.Receipt{Meter: 7, Bill: b, Token: s}
		checks(t, r, api.OK)
		reads(t, paperOf(r), r, api.OK)
	}
}

// What holds everywhere: what a call answers hangs on its arguments alone, whoever else calls.

func TestManyAtOnce(t *testing.T) {
	var all sync.WaitGroup
	for i := range 16 {
		all.Go(func() {
			r := rights[i%len(rights)]
			for range 200 {
				s, e := receipt.Show(r)
				got, f := receipt.Read(s)
				if s != paperOf(r) || e != api.OK || got != r || f != api.OK {
					t.Errorf("%v: %q, %v, and read %v, %v", r, s, e, got, f)
				}
			}
		})
	}
	all.Wait()
}
