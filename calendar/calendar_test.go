package calendar_test

import (
	"math"
	"sync"
	"testing"
	"time"

	"vendmeter/api"
	"vendmeter/calendar"
)

// wrongDays: numbers that no day has.
var wrongDays = []int{
	-1, -2, -7, -28, -31, -365, -366, -73048, -73049, math.MinInt32, math.MinInt + 1, math.MinInt,
	73049, 73050, 73055, 73079, 73414, 146097, math.MaxInt32, 1 << 32, 1<<32 + 1, 1 << 62, math.MaxInt - 5, math.MaxInt,
}

// wrongMonths: numbers that no month has.
var wrongMonths = []int{
	-1, -2, -11, -12, -13, -2399, -2400, math.MinInt32, math.MinInt + 1, math.MinInt,
	2400, 2401, 2411, 2412, 4800, math.MaxInt32, 1 << 32, 1<<32 + 1, 1 << 62, math.MaxInt - 12, math.MaxInt - 1, math.MaxInt,
}

// far: numbers that are no part of any date.
var far = []int{math.MinInt, math.MinInt + 1, math.MinInt32, -1 << 32, -2000, -12, 1 << 32, 1<<32 + 1, 1<<32 + 2000, math.MaxInt32, math.MaxInt - 1, math.MaxInt}

// isLeap: by the chapter's words.
func isLeap(year int) bool {
	return year%400 == 0 || year%4 == 0 && year%100 != 0
}

// length of a month, by the chapter's words.
func length(year, month int) int {
	if month == 2 && isLeap(year) {
		return 29
	}
	return [...]int{31, 28, 31, 30, 31, 30, 31, 31, 30, 31, 30, 31}[month-1]
}

// eachDate, from the first to the last, as the chapter tells the lengths of months.
func eachDate(do func(day, month int, d api.Date)) {
	day, month := 0, 0
	for year := 2000; year <= 2199; year++ {
		for m := 1; m <= 12; m++ {
			for n := 1; n <= length(year, m); n++ {
				do(day, month, api.Date{Year: year, Month: m, Day: n})
				day++
			}
			month++
		}
	}
}

// noDate: does Day refuse this?
func noDate(t *testing.T, d api.Date) {
	t.Helper()
	if day, e := calendar.Day(d); e != api.ErrRange || day != 0 {
		t.Errorf("Day(%v): %d, %v, want 0 and ErrRange", d, day, e)
	}
}

// mustDay: the day of a date that there is.
func mustDay(t *testing.T, d api.Date) int {
	t.Helper()
	day, e := calendar.Day(d)
	if e != api.OK {
		t.Fatalf("Day(%v): %v", d, e)
	}
	return day
}

// mustDate: the date of a day that there is.
func mustDate(t *testing.T, day int) api.Date {
	t.Helper()
	d, e := calendar.DateOf(day)
	if e != api.OK {
		t.Fatalf("DateOf(%d): %v", day, e)
	}
	return d
}

// P12.1

// TestLengthsOfMonths: of each month there is the last day, and none behind it.
func TestLengthsOfMonths(t *testing.T) {
	for year := 2000; year <= 2199; year++ {
		for month := 1; month <= 12; month++ {
			n := length(year, month)
			mustDay(t, api.Date{Year: year, Month: month, Day: 1})
			mustDay(t, api.Date{Year: year, Month: month, Day: n})
			noDate(t, api.Date{Year: year, Month: month, Day: n + 1})
			first, last, e := calendar.Days((year-2000)*12 + month - 1)
			if e != api.OK || last-first+1 != n {
				t.Errorf("the month %d of %d: %d to %d, %v, want %d days", month, year, first, last, e, n)
			}
		}
	}
}

// TestLeapYears: the years at the edges of the rule, by name.
func TestLeapYears(t *testing.T) {
	for _, year := range []int{2000, 2004, 2008, 2096, 2104, 2108, 2196} {
		mustDay(t, api.Date{Year: year, Month: 2, Day: 29})
		noDate(t, api.Date{Year: year, Month: 2, Day: 30})
	}
	for _, year := range []int{2001, 2002, 2003, 2005, 2099, 2100, 2101, 2102, 2103, 2197, 2198, 2199} {
		mustDay(t, api.Date{Year: year, Month: 2, Day: 28})
		noDate(t, api.Date{Year: year, Month: 2, Day: 29})
	}
}

// TestLengthsOfYears: from one January to the next, up to the end of the last year.
func TestLengthsOfYears(t *testing.T) {
	for year := 2000; year <= 2199; year++ {
		want := 365
		if isLeap(year) {
			want = 366
		}
		first := mustDay(t, api.Date{Year: year, Month: 1, Day: 1})
		last := mustDay(t, api.Date{Year: year, Month: 12, Day: 31})
		if last-first+1 != want {
			t.Errorf("the year %d: %d days, want %d", year, last-first+1, want)
		}
	}
}

// P12.2

func TestDay(t *testing.T) {
	for _, c := range []struct {
		date api.Date
		want int
	}{
		{api.Date{Year: 2000, Month: 1, Day: 1}, 0},
		{api.Date{Year: 2000, Month: 1, Day: 2}, 1},
		{api.Date{Year: 2000, Month: 1, Day: 31}, 30},
		{api.Date{Year: 2000, Month: 2, Day: 1}, 31},
		{api.Date{Year: 2000, Month: 2, Day: 28}, 58},
		{api.Date{Year: 2000, Month: 2, Day: 29}, 59},
		{api.Date{Year: 2000, Month: 3, Day: 1}, 60},
		{api.Date{Year: 2000, Month: 12, Day: 31}, 365},
		{api.Date{Year: 2001, Month: 1, Day: 1}, 366},
		{api.Date{Year: 2001, Month: 12, Day: 31}, 730},
		{api.Date{Year: 2100, Month: 2, Day: 28}, 36583},
		{api.Date{Year: 2100, Month: 3, Day: 1}, 36584},
		{api.Date{Year: 2199, Month: 12, Day: 1}, 73018},
		{api.Date{Year: 2199, Month: 12, Day: 30}, 73047},
		{api.Date{Year: 2199, Month: 12, Day: 31}, 73048},
	} {
		if got := mustDay(t, c.date); got != c.want {
			t.Errorf("Day(%v): %d, want %d", c.date, got, c.want)
		}
	}
}

func TestDayOfEachDate(t *testing.T) {
	eachDate(func(day, _ int, d api.Date) {
		if got, e := calendar.Day(d); e != api.OK || got != day {
			t.Fatalf("Day(%v): %d, %v, want %d", d, got, e, day)
		}
	})
}

// TestDatesThatThereAreNot: everything around the dates that there are, and nothing else, is refused.
func TestDatesThatThereAreNot(t *testing.T) {
	dayOf := map[api.Date]int{}
	eachDate(func(day, _ int, d api.Date) { dayOf[d] = day })
	if len(dayOf) != 73049 {
		t.Fatalf("%d dates, want 73049", len(dayOf))
	}
	for year := 1995; year <= 2205; year++ {
		for month := -2; month <= 15; month++ {
			for n := -2; n <= 34; n++ {
				d := api.Date{Year: year, Month: month, Day: n}
				want, there := dayOf[d]
				if !there {
					noDate(t, d)
				} else if got := mustDay(t, d); got != want {
					t.Errorf("Day(%v): %d, want %d", d, got, want)
				}
			}
		}
	}
}

// TestFarDates: one part, two or all of them are far from what may be.
func TestFarDates(t *testing.T) {
	noDate(t, api.Date{})
	for _, n := range far {
		noDate(t, api.Date{Year: n, Month: 1, Day: 1})
		noDate(t, api.Date{Year: 2000, Month: n, Day: 1})
		noDate(t, api.Date{Year: 2000, Month: 1, Day: n})
		noDate(t, api.Date{Year: 2000, Month: 2, Day: n})
		for _, k := range far {
			noDate(t, api.Date{Year: n, Month: k, Day: 1})
			noDate(t, api.Date{Year: n, Month: 2, Day: k})
			noDate(t, api.Date{Year: 2199, Month: n, Day: k})
			noDate(t, api.Date{Year: n, Month: k, Day: n})
		}
	}
}

// P12.3

func TestDateOf(t *testing.T) {
	for _, c := range []struct {
		day  int
		want api.Date
	}{
		{0, api.Date{Year: 2000, Month: 1, Day: 1}},
		{30, api.Date{Year: 2000, Month: 1, Day: 31}},
		{31, api.Date{Year: 2000, Month: 2, Day: 1}},
		{59, api.Date{Year: 2000, Month: 2, Day: 29}},
		{60, api.Date{Year: 2000, Month: 3, Day: 1}},
		{365, api.Date{Year: 2000, Month: 12, Day: 31}},
		{366, api.Date{Year: 2001, Month: 1, Day: 1}},
		{36524, api.Date{Year: 2099, Month: 12, Day: 31}},
		{36525, api.Date{Year: 2100, Month: 1, Day: 1}},
		{36583, api.Date{Year: 2100, Month: 2, Day: 28}},
		{36584, api.Date{Year: 2100, Month: 3, Day: 1}},
		{73017, api.Date{Year: 2199, Month: 11, Day: 30}},
		{73018, api.Date{Year: 2199, Month: 12, Day: 1}},
		{73048, api.Date{Year: 2199, Month: 12, Day: 31}},
	} {
		if got := mustDate(t, c.day); got != c.want {
			t.Errorf("DateOf(%d): %v, want %v", c.day, got, c.want)
		}
	}
}

func TestDateOfEachDay(t *testing.T) {
	last := -1
	eachDate(func(day, _ int, d api.Date) {
		last = day
		if got, e := calendar.DateOf(day); e != api.OK || got != d {
			t.Fatalf("DateOf(%d): %v, %v, want %v", day, got, e, d)
		}
	})
	if last != api.MaxDay {
		t.Errorf("the last day is %d, want %d", last, api.MaxDay)
	}
}

// TestDatesAsTheLibraryHasThem: another calendar that goes by the same rule.
func TestDatesAsTheLibraryHasThem(t *testing.T) {
	first := time.Date(2000, time.January, 1, 0, 0, 0, 0, time.UTC)
	for day := 0; day <= api.MaxDay; day++ {
		theirs := first.AddDate(0, 0, day)
		year, month, n := theirs.Date()
		want := api.Date{Year: year, Month: int(month), Day: n}
		if got := mustDate(t, day); got != want {
			t.Fatalf("DateOf(%d): %v, want %v", day, got, want)
		}
		if got := mustDay(t, want); got != day {
			t.Fatalf("Day(%v): %d, want %d", want, got, day)
		}
		if got, e := calendar.Weekday(day); e != api.OK || got != (int(theirs.Weekday())+6)%7 {
			t.Fatalf("Weekday(%d): %d, %v, want what comes of %v", day, got, e, theirs.Weekday())
		}
	}
}

func TestDateOfWrongDays(t *testing.T) {
	for _, day := range wrongDays {
		if d, e := calendar.DateOf(day); e != api.ErrRange || d != (api.Date{}) {
			t.Errorf("DateOf(%d): %v, %v, want no date and ErrRange", day, d, e)
		}
	}
}

// P12.4

func TestMonth(t *testing.T) {
	for _, c := range []struct{ day, want int }{
		{0, 0}, {30, 0}, {31, 1}, {59, 1}, {60, 2}, {365, 11}, {366, 12}, {396, 12}, {397, 13},
		{36524, 1199}, {36525, 1200}, {36583, 1201}, {36584, 1202}, {73017, 2398}, {73018, 2399}, {73048, 2399},
	} {
		if got, e := calendar.Month(c.day); e != api.OK || got != c.want {
			t.Errorf("Month(%d): %d, %v, want %d", c.day, got, e, c.want)
		}
	}
}

func TestMonthOfEachDay(t *testing.T) {
	last := -1
	eachDate(func(day, month int, d api.Date) {
		last = month
		if got, e := calendar.Month(day); e != api.OK || got != month {
			t.Fatalf("Month(%d), which is %v: %d, %v, want %d", day, d, got, e, month)
		}
	})
	if last != api.MaxMonth {
		t.Errorf("the last month is %d, want %d", last, api.MaxMonth)
	}
}

func TestMonthOfWrongDays(t *testing.T) {
	for _, day := range wrongDays {
		if m, e := calendar.Month(day); e != api.ErrRange || m != 0 {
			t.Errorf("Month(%d): %d, %v, want 0 and ErrRange", day, m, e)
		}
	}
}

// P12.5

func TestDays(t *testing.T) {
	for _, c := range []struct{ month, first, last int }{
		{0, 0, 30}, {1, 31, 59}, {2, 60, 90}, {3, 91, 120}, {11, 335, 365}, {12, 366, 396}, {13, 397, 424},
		{1199, 36494, 36524}, {1200, 36525, 36555}, {1201, 36556, 36583}, {1202, 36584, 36614},
		{2398, 72988, 73017}, {2399, 73018, 73048},
	} {
		if first, last, e := calendar.Days(c.month); e != api.OK || first != c.first || last != c.last {
			t.Errorf("Days(%d): %d, %d, %v, want %d and %d", c.month, first, last, e, c.first, c.last)
		}
	}
}

// TestDaysOfEachMonth: each begins behind the one ahead of it, has its length, and the last one ends with the last day.
func TestDaysOfEachMonth(t *testing.T) {
	next := 0
	for month := 0; month <= 2399; month++ {
		first, last, e := calendar.Days(month)
		if e != api.OK || first != next {
			t.Fatalf("Days(%d): %d, %d, %v, want %d as the first", month, first, last, e, next)
		}
		if want := first + length(2000+month/12, month%12+1) - 1; last != want {
			t.Fatalf("Days(%d): %d, %d, want %d as the last", month, first, last, want)
		}
		next = last + 1
	}
	if next != 73049 {
		t.Errorf("the last month ends with the day %d, want 73048", next-1)
	}
}

func TestDaysOfWrongMonths(t *testing.T) {
	for _, month := range wrongMonths {
		if first, last, e := calendar.Days(month); e != api.ErrRange || first != 0 || last != 0 {
			t.Errorf("Days(%d): %d, %d, %v, want 0, 0 and ErrRange", month, first, last, e)
		}
	}
}

// P12.6

func TestWeekday(t *testing.T) {
	for _, c := range []struct{ day, want int }{
		{0, 5}, {1, 6}, {2, 0}, {3, 1}, {4, 2}, {5, 3}, {6, 4}, {7, 5}, {8, 6}, {9, 0},
		{59, 1},    // 2000-02-29, a Tuesday
		{366, 0},   // 2001-01-01, a Monday
		{36584, 0}, // 2100-03-01, a Monday
		{73048, 1}, // 2199-12-31, a Tuesday
	} {
		if got, e := calendar.Weekday(c.day); e != api.OK || got != c.want {
			t.Errorf("Weekday(%d): %d, %v, want %d", c.day, got, e, c.want)
		}
	}
}

// TestWeekdaysGoRound: each day's is the one behind that of the day before, Monday behind Sunday.
func TestWeekdaysGoRound(t *testing.T) {
	want := 5
	for day := 0; day <= api.MaxDay; day++ {
		if got, e := calendar.Weekday(day); e != api.OK || got != want {
			t.Fatalf("Weekday(%d): %d, %v, want %d", day, got, e, want)
		}
		if want++; want == 7 {
			want = 0
		}
	}
}

func TestWeekdayOfWrongDays(t *testing.T) {
	for _, day := range wrongDays {
		if w, e := calendar.Weekday(day); e != api.ErrRange || w != 0 {
			t.Errorf("Weekday(%d): %d, %v, want 0 and ErrRange", day, w, e)
		}
	}
}

// What comes of it.

// TestDaysAndDatesAreOneToOne: there and back again, with no date told twice.
func TestDaysAndDatesAreOneToOne(t *testing.T) {
	dayOf := map[api.Date]int{}
	for day := 0; day <= api.MaxDay; day++ {
		d := mustDate(t, day)
		if other, there := dayOf[d]; there {
			t.Fatalf("%v is the day %d and the day %d", d, other, day)
		}
		dayOf[d] = day
		if back := mustDay(t, d); back != day {
			t.Fatalf("DateOf(%d): %v, whose day is %d", day, d, back)
		}
	}
}

// TestDaysLieInTheirMonths: between the first and the last one; and both of these are of that month.
func TestDaysLieInTheirMonths(t *testing.T) {
	for day := 0; day <= api.MaxDay; day++ {
		month, _ := calendar.Month(day)
		first, last, e := calendar.Days(month)
		if e != api.OK || day < first || day > last {
			t.Fatalf("the day %d is of the month %d, which has the days %d to %d (%v)", day, month, first, last, e)
		}
		if d := mustDate(t, day); month != (d.Year-2000)*12+d.Month-1 || day != first+d.Day-1 {
			t.Fatalf("the day %d is %v, of the month %d, whose first day is %d", day, d, month, first)
		}
	}
}

// TestWeeks: seven days later the weekday is the same, and on none of the days between.
func TestWeeks(t *testing.T) {
	for day := 0; day+7 <= api.MaxDay; day++ {
		now, _ := calendar.Weekday(day)
		for later := 1; later <= 7; later++ {
			if then, _ := calendar.Weekday(day + later); (then == now) != (later == 7) {
				t.Fatalf("Weekday(%d): %d; Weekday(%d): %d", day, now, day+later, then)
			}
		}
	}
}

// TestNothingIsKept: calls from many sides answer what one alone answers.
func TestNothingIsKept(t *testing.T) {
	var all sync.WaitGroup
	for start := range 8 {
		all.Go(func() {
			for day := start - 20; day <= api.MaxDay+20; day += 97 {
				d, e := calendar.DateOf(day)
				back, f := calendar.Day(d)
				if day < 0 || day > api.MaxDay {
					if e != api.ErrRange || f != api.ErrRange {
						t.Errorf("DateOf(%d): %v, %v", day, d, e)
					}
				} else if back != day {
					t.Errorf("DateOf(%d): %v, whose day is %d", day, d, back)
				}
			}
		})
	}
	all.Wait()
}
