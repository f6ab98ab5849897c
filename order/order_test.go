package order_test

import (
	"fmt"
	"math"
	"math/rand/v2"
	"regexp"
	"strconv"
	"strings"
	"sync"
	"testing"

	"vendmeter/api"
	"vendmeter/order"
)

// The chapter's numbers, written out.
const (
	most      = 1000000000000
	mostCut   = 4096
	mostBytes = 120
)

// lines of all kinds, and their acts: the least and the most numbers, and numbers that all differ.
var lines = []struct {
	line string
	act  api.Act
}{
	{"register 1", api.Act{Kind: 1, Meter: 1, Cut: -1}},
	{"register 0", api.Act{Kind: 1, Cut: -1}},
	{"register 1000000000000", api.Act{Kind: 1, Meter: most, Cut: -1}},
	{"sell 3 1000 12 77", api.Act{Kind: 2, Meter: 3, A: 1000, B: 12, C: 77, Cut: -1}},
	{"sell 0 0 0 0", api.Act{Kind: 2, Cut: -1}},
	{"sell 1000000000000 1000000000000 1000000000000 1000000000000", api.Act{Kind: 2, Meter: most, A: most, B: most, C: most, Cut: -1}},
	{"grant 4 5 6", api.Act{Kind: 3, Meter: 4, A: 5, C: 6, Cut: -1}},
	{"grant 0 0 1000000000000", api.Act{Kind: 3, C: most, Cut: -1}},
	{"rekey 1 9", api.Act{Kind: 4, Meter: 1, C: 9, Cut: -1}},
	{"rekey 1000000000000 0", api.Act{Kind: 4, Meter: most, Cut: -1}},
	{"charge 10 20 30", api.Act{Kind: 5, Meter: 10, A: 20, B: 30, Cut: -1}},
	{"charge 0 1000000000000 0", api.Act{Kind: 5, A: most, Cut: -1}},
	{"key 3 1234 5678#", api.Act{Kind: 6, Meter: 3, Text: "1234 5678#", Cut: -1}},
	{"key 3 ", api.Act{Kind: 6, Meter: 3, Cut: -1}},
	{"key 0  ", api.Act{Kind: 6, Text: " ", Cut: -1}},
	{"key 0   1  2 ", api.Act{Kind: 6, Text: "  1  2 ", Cut: -1}},
	{"key 7 cut 4 key 3 5#", api.Act{Kind: 6, Meter: 7, Text: "cut 4 key 3 5#", Cut: -1}},
	{"key 7 \x00\r\t\v\xff\xfe\u00a0\u2028٣０", api.Act{Kind: 6, Meter: 7, Text: "\x00\r\t\v\xff\xfe\u00a0\u2028٣０", Cut: -1}},
	{"tick 1 2", api.Act{Kind: 7, Meter: 1, A: 2, Cut: -1}},
	{"tick 49 1000", api.Act{Kind: 7, Meter: 49, A: 1000, Cut: -1}},
	{"cut 0 tick 1 2", api.Act{Kind: 7, Meter: 1, A: 2}},
	{"cut 4096 tick 1 2", api.Act{Kind: 7, Meter: 1, A: 2, Cut: mostCut}},
	{"cut 4 key 3 1234 5678#", api.Act{Kind: 6, Meter: 3, Text: "1234 5678#", Cut: 4}},
	{"cut 1 key 3 ", api.Act{Kind: 6, Meter: 3, Cut: 1}},
	{"cut 10 register 5", api.Act{Kind: 1, Meter: 5, Cut: 10}},
	{"cut 15 sell 3 1000 12 77", api.Act{Kind: 2, Meter: 3, A: 1000, B: 12, C: 77, Cut: 15}},
	{"cut 3 grant 4 5 6", api.Act{Kind: 3, Meter: 4, A: 5, C: 6, Cut: 3}},
	{"cut 2 rekey 1 9", api.Act{Kind: 4, Meter: 1, C: 9, Cut: 2}},
	{"cut 99 charge 10 20 30", api.Act{Kind: 5, Meter: 10, A: 20, B: 30, Cut: 99}},
}

// wrongNumbers: what no number of an act may be, those among them that would be good ones of 32 bits or fewer.
var wrongNumbers = []int{
	-1, -2, -most, math.MinInt32, -1 << 32, math.MinInt + 1, math.MinInt,
	most + 1, most + 2, 10 * most, 1 << 62, 1<<62 + 7, math.MaxInt - 1, math.MaxInt,
}

// theNumbers of an act, by their names; and which of them each kind has: P22.1, as a table.
var theNumbers = []struct {
	name  string
	at    func(*api.Act) *int
	kinds string
}{
	{"Meter", func(a *api.Act) *int { return &a.Meter }, "1234567"},
	{"A", func(a *api.Act) *int { return &a.A }, "2357"},
	{"B", func(a *api.Act) *int { return &a.B }, "25"},
	{"C", func(a *api.Act) *int { return &a.C }, "234"},
}

// has: does a kind have the number?
func has(kinds string, kind int) bool {
	return kind >= 1 && kind <= 7 && strings.Contains(kinds, strconv.Itoa(kind))
}

// tail of an act's line: its word, and what stands behind it: P22.1 by its words. Without a word there is no such kind.
func tail(a api.Act) string {
	switch a.Kind {
	case 1:
		return fmt.Sprintf("register %d", a.Meter)
	case 2:
		return fmt.Sprintf("sell %d %d %d %d", a.Meter, a.A, a.B, a.C)
	case 3:
		return fmt.Sprintf("grant %d %d %d", a.Meter, a.A, a.C)
	case 4:
		return fmt.Sprintf("rekey %d %d", a.Meter, a.C)
	case 5:
		return fmt.Sprintf("charge %d %d %d", a.Meter, a.A, a.B)
	case 6:
		return fmt.Sprintf("key %d %s", a.Meter, a.Text)
	case 7:
		return fmt.Sprintf("tick %d %d", a.Meter, a.A)
	}
	return ""
}

// shown: an act as a line, and why it has none: P22.2 by its words.
func shown(a api.Act) (string, api.Errno) {
	line := tail(a)
	if line == "" || a.Cut < -1 || a.Cut > mostCut {
		return "", api.ErrRange
	}
	other := a.Text != "" && (a.Kind != 6 || strings.Contains(a.Text, "\n"))
	for _, n := range theNumbers {
		switch v := *n.at(&a); {
		case !has(n.kinds, a.Kind):
			other = other || v != 0
		case v < 0 || v > most:
			return "", api.ErrRange
		}
	}
	if other {
		return "", api.ErrForm
	}
	if a.Cut != -1 {
		line = fmt.Sprintf("cut %d %s", a.Cut, line)
	}
	if len(line) > mostBytes {
		return "", api.ErrSize
	}
	return line, api.OK
}

// actForm: any act's line, but for the bounds of its numbers; an N is a number, without noughts ahead.
var actForm = regexp.MustCompile(strings.ReplaceAll(
	`^(?:cut (N) )?(?:(register) (N)|(sell) (N) (N) (N) (N)|(grant) (N) (N) (N)|(rekey) (N) (N)|(charge) (N) (N) (N)|(key) (N) ([^\n]*)|(tick) (N) (N))$`,
	"N", "0|[1-9][0-9]*"))

// read: the act whose line this is, and why there is none: P22.3 by its words.
func read(line string) (api.Act, api.Errno) {
	if len(line) > mostBytes {
		return api.Act{}, api.ErrSize
	}
	m := actForm.FindStringSubmatch(line)
	if m == nil {
		return api.Act{}, api.ErrForm
	}
	a, good := api.Act{Cut: -1}, true
	put := func(at *int, digits string, most int) {
		n, err := strconv.Atoi(digits)
		*at, good = n, good && err == nil && n <= most
	}
	if m[1] != "" {
		put(&a.Cut, m[1], mostCut)
	}
	for _, k := range []struct{ kind, at int }{{1, 2}, {2, 4}, {3, 9}, {4, 13}, {5, 16}, {6, 20}, {7, 23}} {
		if m[k.at] == "" {
			continue
		}
		a.Kind = k.kind
		at := k.at
		for _, n := range theNumbers {
			if has(n.kinds, k.kind) {
				at++
				put(n.at(&a), m[at], most)
			}
		}
		if k.kind == 6 {
			a.Text = m[at+1]
		}
	}
	if !good {
		return api.Act{}, api.ErrForm
	}
	return a, api.OK
}

func showIs(t *testing.T, a api.Act, want string, f api.Errno) {
	t.Helper()
	if got, e := order.Show(a); got != want || e != f {
		t.Errorf("Show(%#v): %.200q, %v; want %.200q, %v", a, got, e, want, f)
	}
}

func readIs(t *testing.T, line string, want api.Act, f api.Errno) {
	t.Helper()
	if got, e := order.Read(line); got != want || e != f {
		t.Errorf("Read(%.200q): %#v, %v; want %#v, %v", line, got, e, want, f)
	}
}

// refuses: the act has no line, for this reason.
func refuses(t *testing.T, a api.Act, f api.Errno) {
	t.Helper()
	showIs(t, a, "", f)
}

// noAct: this is no act's line.
func noAct(t *testing.T, line string, f api.Errno) {
	t.Helper()
	readIs(t, line, api.Act{}, f)
}

// held: both ways against the chapter's words.
func held(t *testing.T, a api.Act) {
	t.Helper()
	want, f := shown(a)
	showIs(t, a, want, f)
}

func heldLine(t *testing.T, line string) {
	t.Helper()
	want, f := read(line)
	readIs(t, line, want, f)
}

// drawnNumber: now one of the first ones, now one of any size up to the most.
func drawnNumber(r *rand.Rand, most int) int {
	n := r.IntN(most + 1)
	if r.IntN(2) == 0 {
		n >>= r.IntN(64)
	}
	return n
}

// drawnAct: any act that may have a line.
func drawnAct(r *rand.Rand) api.Act {
	a := api.Act{Kind: 1 + r.IntN(7), Cut: -1}
	if r.IntN(2) == 0 {
		a.Cut = drawnNumber(r, mostCut)
	}
	for _, n := range theNumbers {
		if has(n.kinds, a.Kind) {
			*n.at(&a) = drawnNumber(r, most)
		}
	}
	if a.Kind == 6 {
		a.Text = drawnText(r, r.IntN(80))
	}
	return a
}

// drawnText: bytes of any kind, but no line feed; blanks and digits most often.
func drawnText(r *rand.Rand, n int) string {
	const often = "  0123456789#*-"
	l := make([]byte, n)
	for i := range l {
		l[i] = byte(r.IntN(256))
		if r.IntN(3) > 0 || l[i] == '\n' {
			l[i] = often[r.IntN(len(often))]
		}
	}
	return string(l)
}

// P22.1, P22.2

func TestShow(t *testing.T) {
	for _, c := range lines {
		showIs(t, c.act, c.line, api.OK)
		if want, f := shown(c.act); want != c.line || f != api.OK {
			t.Errorf("by the chapter's words %#v is %q, %v", c.act, want, f)
		}
	}
}

func TestKindsOfPackageApi(t *testing.T) {
	for _, c := range []struct {
		kind int
		line string
	}{
		{api.DoRegister, "register 0"}, {api.DoSell, "sell 0 0 0 0"}, {api.DoGrant, "grant 0 0 0"}, {api.DoRekey, "rekey 0 0"},
		{api.DoCharge, "charge 0 0 0"}, {api.DoKey, "key 0 "}, {api.DoTick, "tick 0 0"},
	} {
		showIs(t, api.Act{Kind: c.kind, Cut: -1}, c.line, api.OK)
	}
}

// TestShowEachNumber: every place of a number, with numbers of every length, and no nought ahead.
func TestShowEachNumber(t *testing.T) {
	for kind := 1; kind <= 7; kind++ {
		for _, n := range theNumbers {
			if !has(n.kinds, kind) {
				continue
			}
			for ten := 1; ten <= most; ten *= 10 {
				for _, v := range []int{ten - 1, ten, min(ten+1, most)} {
					a := api.Act{Kind: kind, Cut: -1}
					*n.at(&a) = v
					held(t, a)
				}
			}
		}
	}
}

func TestShowCut(t *testing.T) {
	for kind := 1; kind <= 7; kind++ {
		a := api.Act{Kind: kind, Meter: 5, Cut: -1}
		plain := tail(a)
		showIs(t, a, plain, api.OK)
		for a.Cut = 0; a.Cut <= mostCut; a.Cut++ {
			showIs(t, a, "cut "+strconv.Itoa(a.Cut)+" "+plain, api.OK)
		}
		for _, n := range []int{-2, -3, -mostCut, math.MinInt32, -1<<32 - 1, math.MinInt + 1, math.MinInt, mostCut + 1, mostCut + 2, 1 << 16, 1 << 32, 1<<32 + 5, 1<<32 - 1, math.MaxInt} {
			a.Cut = n
			refuses(t, a, api.ErrRange)
		}
	}
}

func TestShowNoKind(t *testing.T) {
	for _, kind := range []int{0, 8, 9, 100, -1, -7, math.MinInt, math.MinInt + 1, math.MaxInt, 1 << 32, 1<<32 + 1, 1<<62 + 7, 256 + 1} {
		for _, a := range []api.Act{{Cut: -1}, {}, {Meter: 1, A: 1, B: 1, C: 1, Text: "1", Cut: -1}, {Text: strings.Repeat("\n", 200), Cut: -1}} {
			a.Kind = kind
			refuses(t, a, api.ErrRange)
		}
	}
}

// TestShowWrongNumbers: beyond the bounds a number of the kind is ErrRange; one of the others is ErrForm, whatever it is but 0.
func TestShowWrongNumbers(t *testing.T) {
	for _, c := range lines {
		for _, n := range theNumbers {
			a := c.act
			for _, v := range wrongNumbers {
				*n.at(&a) = v
				if has(n.kinds, a.Kind) {
					refuses(t, a, api.ErrRange)
				} else {
					refuses(t, a, api.ErrForm)
				}
			}
			for _, v := range []int{1, 2, 77, most - 1, most} {
				*n.at(&a) = v
				if has(n.kinds, a.Kind) {
					showIs(t, a, withCut(a), api.OK)
				} else {
					refuses(t, a, api.ErrForm)
				}
			}
		}
	}
}

// withCut: an act's line, if it has one.
func withCut(a api.Act) string {
	if a.Cut == -1 {
		return tail(a)
	}
	return fmt.Sprintf("cut %d %s", a.Cut, tail(a))
}

// TestShowText: no kind but DoKey has a Text, and that has no line feed; every other byte may be there.
func TestShowText(t *testing.T) {
	for b := range 256 {
		for _, text := range []string{string([]byte{byte(b)}), "12" + string([]byte{byte(b)}), string([]byte{byte(b)}) + "#", "1" + string([]byte{byte(b)}) + "2"} {
			for kind := 1; kind <= 7; kind++ {
				a := api.Act{Kind: kind, Meter: 2, Text: text, Cut: -1}
				switch {
				case kind != api.DoKey || b == '\n':
					refuses(t, a, api.ErrForm)
				default:
					showIs(t, a, "key 2 "+text, api.OK)
				}
			}
		}
	}
}

// TestShowSize: the line, with all that stands ahead of the Text, has at most MaxLine bytes; characters are not counted.
func TestShowSize(t *testing.T) {
	for _, a := range []api.Act{{Cut: -1}, {Meter: 10, Cut: -1}, {Meter: most, Cut: -1}, {Meter: 3, Cut: 4}, {Meter: most, Cut: mostCut}, {}} {
		a.Kind = api.DoKey
		room := mostBytes - len(withCut(a))
		for _, one := range []string{"1", " ", "\xff", "#"} {
			for n := range 300 {
				a.Text = strings.Repeat(one, n)
				if n <= room {
					showIs(t, a, withCut(a), api.OK)
				} else {
					refuses(t, a, api.ErrSize)
				}
			}
		}
	}
	a := api.Act{Kind: api.DoKey, Text: strings.Repeat("０", 38), Cut: -1}
	showIs(t, a, "key 0 "+a.Text, api.OK)
	a.Text += "０"
	refuses(t, a, api.ErrSize)
	a.Text = strings.Repeat("1", 1<<20)
	refuses(t, a, api.ErrSize)
}

// TestShowOrder: of several faults the one that is named first is told.
func TestShowOrder(t *testing.T) {
	long := strings.Repeat("1", 200)
	for _, c := range []struct {
		a api.Act
		f api.Errno
	}{
		{api.Act{Kind: 6, Meter: -1, Text: "\n" + long, Cut: -1}, api.ErrRange},
		{api.Act{Kind: 6, Text: "\n" + long, Cut: -2}, api.ErrRange},
		{api.Act{Kind: 6, Text: long, Cut: mostCut + 1}, api.ErrRange},
		{api.Act{Kind: 6, A: 1, Text: long, Cut: -1}, api.ErrForm},
		{api.Act{Kind: 6, A: -1, Text: long, Cut: -1}, api.ErrForm},
		{api.Act{Kind: 6, C: math.MaxInt, Meter: most + 1, Text: long, Cut: -1}, api.ErrRange},
		{api.Act{Kind: 6, Text: long + "\n", Cut: -1}, api.ErrForm},
		{api.Act{Kind: 6, Text: long, Cut: -1}, api.ErrSize},
		{api.Act{Kind: 7, A: -1, B: 1, Cut: -1}, api.ErrRange},
		{api.Act{Kind: 7, B: -1, Cut: -1}, api.ErrForm},
		{api.Act{Kind: 7, Text: long, Cut: -1}, api.ErrForm},
		{api.Act{Kind: 1, A: 1, Cut: -2}, api.ErrRange},
	} {
		refuses(t, c.a, c.f)
	}
}

// TestShowAllFaults: every choice of good and wrong numbers together, held against the chapter's words.
func TestShowAllFaults(t *testing.T) {
	some := []int{0, 1, most, most + 1, -1}
	texts := []string{"", "12#", "1\n", strings.Repeat("1", 113), strings.Repeat("1", 115), strings.Repeat("\n", 130)}
	for kind := -1; kind <= 9; kind++ {
		for _, cut := range []int{-2, -1, 0, mostCut, mostCut + 1} {
			for _, text := range texts {
				for i := range 5 * 5 * 5 * 5 {
					held(t, api.Act{Kind: kind, Meter: some[i%5], A: some[i/5%5], B: some[i/25%5], C: some[i/125], Text: text, Cut: cut})
				}
			}
		}
	}
}

// P22.3

func TestRead(t *testing.T) {
	for _, c := range lines {
		readIs(t, c.line, c.act, api.OK)
		if want, f := read(c.line); want != c.act || f != api.OK {
			t.Errorf("by the chapter's words %q is %#v, %v", c.line, want, f)
		}
	}
}

// TestReadSize: the bytes are counted ahead of all else; up to MaxLine a line of an act may have.
func TestReadSize(t *testing.T) {
	for n := range 400 {
		for _, ahead := range []string{"key 0 ", "cut 0 key 0 ", "", "x", "tick 1 "} {
			for _, one := range []string{"1", " ", "\xff", "\n"} {
				heldLine(t, ahead+strings.Repeat(one, n))
			}
		}
	}
	readIs(t, "key 0 "+strings.Repeat("1", 114), api.Act{Kind: 6, Text: strings.Repeat("1", 114), Cut: -1}, api.OK)
	noAct(t, "key 0 "+strings.Repeat("1", 115), api.ErrSize)
	noAct(t, "tick 1 2"+strings.Repeat(" ", 113), api.ErrSize)
	noAct(t, "tick 1 2"+strings.Repeat(" ", 112), api.ErrForm)
	noAct(t, strings.Repeat("0", 121), api.ErrSize)
	noAct(t, strings.Repeat("0", 120), api.ErrForm)
	noAct(t, "key 0 "+strings.Repeat("０", 39), api.ErrSize)
	noAct(t, strings.Repeat("tick 1 2\n", 1<<17), api.ErrSize)
}

// TestReadNoLine: what is near a line, but no act's.
func TestReadNoLine(t *testing.T) {
	for _, line := range []string{
		"", " ", "\n", "0", "1", "tick", "tick ", "tick  ", "tick 1", "tick 1 ", "tick 1 2 ", " tick 1 2", "tick  1 2", "tick 1  2", "tick 1 2 3", "tick 1 2\n", "\ntick 1 2", "tick 1 2\r", "tick\t1\t2",
		"tick 03 5", "tick 3 05", "tick 00 5", "tick 3 00", "tick -1 5", "tick -0 5", "tick +1 5", "tick 1 -5", "tick 1.0 5", "tick 0x1 5", "tick 1_0 5", "tick 1e1 5", "tick ١ 5", "tick １ 5", "tick a 5", "tick 1,5",
		"Tick 1 2", "TICK 1 2", "ticks 1 2", "tic 1 2", "tick1 2", "tick: 1 2", "7 1 2", "do 1 2", "DoTick 1 2",
		"tick 1000000000001 5", "tick 1 1000000000001", "tick 9223372036854775807 5", "tick 9223372036854775808 5", "tick 18446744073709551616 5", "tick 18446744073709551617 5", "tick 1 99999999999999999999999999999999999999999999",
		"key", "key ", "key 3", "key  ", "key 03 5#", "key -3 5#", "key 3\n5#", "key 3 5#\n", "key 3 \n", "key 3 5\n#", "key a 5#", "keys 3 5#", "key 1000000000001 5#", "key  3 5#", "key 3\t5#",
		"register", "register ", "register 1 ", "register 1 2", "register 01", "register  1", "register -1", "register 1000000000001",
		"sell 3 1000 12", "sell 3 1000 12 ", "sell 3 1000 12 77 ", "sell 3 1000 12 77 1", "sell 3 1000 12  77", "sell 3 1000 012 77", "sell 3 1000 12 077", "sell 3 1000 12 -77", "sell 3 1000 12 1000000000001", "sell 3 1000000000001 12 77",
		"grant 4 5", "grant 4 5 6 7", "grant 4 5 06", "rekey 1", "rekey 1 2 3", "rekey 1 02", "charge 1 2", "charge 1 2 3 4", "charge 01 2 3",
		"cut", "cut ", "cut 4", "cut 4 ", "cut tick 1 2", "cut  tick 1 2", "cut 4 cut 4 tick 1 2", "cut -1 tick 1 2", "cut -0 tick 1 2", "cut -2 tick 1 2", "cut +4 tick 1 2", "cut 04 tick 1 2", "cut 00 tick 1 2",
		"cut 4097 tick 1 2", "cut 4294967296 tick 1 2", "cut 18446744073709551615 tick 1 2", "cut 18446744073709551616 tick 1 2", "cut 99999999999999999999 tick 1 2", "cut 4  tick 1 2", " cut 4 tick 1 2", "cut  4 tick 1 2",
		"Cut 4 tick 1 2", "cut4 tick 1 2", "cut 4\ttick 1 2", "cut 4 tick 1", "cut 4 tick 1 2 3", "cut 4 3", "tick 1 2 cut 4", "cut x tick 1 2", "cut 4 key 3", "cut 4 key 3 \n",
	} {
		noAct(t, line, api.ErrForm)
		if want, f := read(line); f != api.ErrForm {
			t.Errorf("by the chapter's words %q is %#v, %v", line, want, f)
		}
	}
}

// TestReadBounds: the greatest numbers, and the first ones that are too great, at each place of each kind.
func TestReadBounds(t *testing.T) {
	for kind := 1; kind <= 7; kind++ {
		for _, n := range theNumbers {
			if !has(n.kinds, kind) {
				continue
			}
			for _, v := range []int{most - 1, most, most + 1, most + 2, 1 << 62, math.MaxInt} {
				a := api.Act{Kind: kind, Cut: -1}
				*n.at(&a) = v
				if line := tail(a); v <= most {
					readIs(t, line, a, api.OK)
				} else {
					noAct(t, line, api.ErrForm)
				}
			}
		}
	}
}

// TestReadByteByByte: every byte at every place of lines, put in its place, put in ahead of it, and taken away.
func TestReadByteByByte(t *testing.T) {
	for _, c := range lines {
		for i := range len(c.line) + 1 {
			ahead, behind := c.line[:i], c.line[i:]
			heldLine(t, ahead)
			heldLine(t, behind)
			for b := range 256 {
				one := string([]byte{byte(b)})
				heldLine(t, ahead+one+behind)
				if behind != "" {
					heldLine(t, ahead+one+behind[1:])
					heldLine(t, ahead+behind[1:])
				}
			}
		}
	}
}

// TestReadWordsOfOthers: each word, with each number of numbers behind it.
func TestReadWordsOfOthers(t *testing.T) {
	wanted := map[string]int{"register": 1, "sell": 4, "grant": 3, "rekey": 2, "charge": 3, "tick": 2, "cut": -1, "": -1, "sale": -1, "buy": -1}
	for word, many := range wanted {
		line := word
		for n := range 7 {
			if _, e := order.Read(line); (e == api.OK) != (n == many) {
				t.Errorf("Read(%q): %v", line, e)
			}
			line += " " + strconv.Itoa(n)
		}
	}
}

// TestReadPutTogether: any words and numbers behind one another, held against the chapter's words.
func TestReadPutTogether(t *testing.T) {
	r := rand.New(rand.NewPCG(22, 1))
	parts := []string{"cut", "register", "sell", "grant", "rekey", "charge", "key", "tick", "0", "1", "7", "12", "03", "-1", "4096", "4097", "1000000000000", "1000000000001", "", "\n", "#"}
	for range 200000 {
		l := []string{parts[1+r.IntN(7)]}
		if r.IntN(3) == 0 {
			l = []string{"cut", parts[8+r.IntN(8)], parts[1+r.IntN(7)]}
		}
		for range r.IntN(6) {
			l = append(l, parts[8+r.IntN(4)])
			if r.IntN(8) == 0 {
				l[len(l)-1] = parts[r.IntN(len(parts))]
			}
		}
		heldLine(t, strings.Join(l, " "))
	}
}

// What comes of it

// TestShownIsRead: what is shown is read, as the act that it was; and no other act is shown so.
func TestShownIsRead(t *testing.T) {
	r := rand.New(rand.NewPCG(22, 2))
	seen := make(map[string]api.Act)
	for range 20000 {
		a := drawnAct(r)
		held(t, a)
		line, e := order.Show(a)
		if e != api.OK {
			continue
		}
		readIs(t, line, a, api.OK)
		if other, ok := seen[line]; ok && other != a {
			t.Errorf("%#v and %#v are both %q", other, a, line)
		}
		seen[line] = a
	}
	if len(seen) < 15000 {
		t.Errorf("only %d lines were drawn", len(seen))
	}
}

// TestReadIsShown: what is read is shown as it was, also of lines that were changed a bit.
func TestReadIsShown(t *testing.T) {
	r := rand.New(rand.NewPCG(22, 3))
	read := 0
	for range 20000 {
		line := withCut(drawnAct(r))
		for range r.IntN(3) {
			at := r.IntN(len(line))
			line = line[:at] + drawnText(r, 1+r.IntN(2)) + line[at+r.IntN(2):]
		}
		heldLine(t, line)
		if a, e := order.Read(line); e == api.OK {
			read++
			showIs(t, a, line, api.OK)
		}
	}
	if read < 5000 {
		t.Errorf("only %d lines were read", read)
	}
}

// TestManyAtOnce: nothing is kept from call to call, whoever else calls.
func TestManyAtOnce(t *testing.T) {
	var group sync.WaitGroup
	for me := range 50 {
		group.Go(func() {
			for n := range 200 {
				c := lines[(me+n)%len(lines)]
				showIs(t, c.act, c.line, api.OK)
				readIs(t, c.line, c.act, api.OK)
				refuses(t, api.Act{Kind: 8, Meter: me, Cut: -1}, api.ErrRange)
				noAct(t, "tick 0"+strconv.Itoa(me)+" "+strconv.Itoa(n), api.ErrForm)
			}
		})
	}
	group.Wait()
}
