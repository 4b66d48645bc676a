package tests

import (
	"fmt"
	"math/big"
	"math/rand"
	"strings"
	"testing"
	"time"

	"loop.example/g00955/impl"
)

// allMillis is the number of all moments.
const allMillis = (impl.MaxDay + 1) * impl.MilliDay

// codedDate is a result of DateOf.
type codedDate struct{ year, month, day, code int64 }

func dateOf(day int64) codedDate {
	year, month, date, code := impl.DateOf(day)
	return codedDate{year, month, date, code}
}

// codedMoment is a moment with its code.
type codedMoment struct {
	moment impl.Moment
	code   int64
}

func codedTime(m impl.Moment, code int64) codedMoment { return codedMoment{m, code} }

var (
	firstMoment = impl.Moment{}
	lastMoment  = impl.Moment{Day: impl.MaxDay, Milli: impl.MilliDay - 1}
)

// momentAt returns the moment with all its milliseconds.
func momentAt(millis int64) impl.Moment {
	return impl.Moment{Day: millis / impl.MilliDay, Milli: millis % impl.MilliDay}
}

func millisOf(m impl.Moment) int64 { return m.Day*impl.MilliDay + m.Milli }

func validMoments() []impl.Moment {
	return []impl.Moment{
		firstMoment, {Milli: 1}, {Milli: 239}, {Milli: 240}, {Milli: impl.MilliDay - 1}, {Day: 1}, {Day: 59, Milli: 86399999},
		{Day: 100, Milli: 43200000}, {Day: 9000, Milli: 12345678}, {Day: 50000, Milli: 1}, {Day: impl.MaxDay}, lastMoment,
	}
}

func invalidMoments() []impl.Moment {
	return []impl.Moment{
		{Day: -1}, {Milli: -1}, {Day: impl.MaxDay + 1}, {Milli: impl.MilliDay}, {Day: impl.MaxDay, Milli: impl.MilliDay},
		{Day: -1, Milli: impl.MilliDay}, {Day: 1, Milli: -1}, {Day: minInt}, {Day: maxInt}, {Milli: minInt}, {Milli: maxInt},
		{Day: minInt, Milli: minInt}, {Day: maxInt, Milli: maxInt},
	}
}

// Promise 1, for the functions of chapter 3.

func TestP1TimesReturnEqualResults(t *testing.T) {
	numbers := append(edgeNumbers(), impl.MaxDay, impl.MaxDay+1, 1999, 2000, 2100, 2273, 2274, 359999, 360000, allMillis, -allMillis)
	for _, n := range numbers {
		checkRepeats(t, fmt.Sprintf("functions of the day %d", n), func() []any {
			return []any{dateOf(n), coded(impl.WeekDay(n)), coded(impl.DayOf(2000, 2, n)), coded(impl.DayOf(2000, n, 1)), coded(impl.DayOf(n, 1, 1))}
		})
		for _, o := range numbers {
			m := impl.Moment{Day: n, Milli: o}
			checkRepeats(t, fmt.Sprintf("functions of the numbers %d, %d", n, o), func() []any {
				return []any{
					coded(impl.DaysIn(n, o)), coded(impl.DayOf(n, o, 1)), impl.ValidMoment(m), impl.MomentText(m),
					coded(impl.SunLongitude(m)), coded(impl.SeasonOf(m)), coded(impl.SiderealAngle(m, o)),
					codedTime(impl.MomentAfter(m, n)), codedTime(impl.MomentAfter(lastMoment, n)),
					codedTime(impl.NextSidereal(m, 0, 0)), codedTime(impl.NextSidereal(lastMoment, n, o)),
					coded(impl.MilliBetween(m, firstMoment)), coded(impl.MilliBetween(firstMoment, m)),
				}
			})
		}
	}
	for _, s := range edgeTexts() {
		checkRepeats(t, fmt.Sprintf("ReadMoment(%.40q)", s), func() []any {
			m, ok := impl.ReadMoment(s)
			return []any{m, ok}
		})
	}
}

// Promise 4: days and dates.

func TestP4TimeConstants(t *testing.T) {
	checkResult(t, "constants", []int64{impl.MaxDay, impl.MilliDay, impl.FirstYear}, []int64{99999, 86400000, 2000})
}

func TestP4DaysAndDatesLeadToEachOther(t *testing.T) {
	now := time.Date(2000, 1, 1, 0, 0, 0, 0, time.UTC)
	for day := range int64(impl.MaxDay + 1) {
		year, month, date := int64(now.Year()), int64(now.Month()), int64(now.Day())
		if got, want := dateOf(day), (codedDate{year, month, date, impl.OK}); got != want {
			t.Fatalf("DateOf(%d): got %v, want %v", day, got, want)
		}
		if got, code := impl.DayOf(year, month, date); got != day || code != impl.OK {
			t.Fatalf("DayOf(%d, %d, %d): got %d, %d, want %d, 0", year, month, date, got, code, day)
		}
		// Of the standard library, the week begins with Sunday.
		if got, code := impl.WeekDay(day); got != int64(now.Weekday()+6)%7 || code != impl.OK {
			t.Fatalf("WeekDay(%d): got %d, %d on a %s", day, got, code, now.Weekday())
		}
		now = now.AddDate(0, 0, 1)
	}
}

func TestP4DayCases(t *testing.T) {
	cases := []struct{ year, month, date, day int64 }{
		{2000, 1, 1, 0}, {2000, 1, 31, 30}, {2000, 2, 28, 58}, {2000, 2, 29, 59}, {2000, 3, 1, 60}, {2000, 12, 31, 365},
		{2001, 1, 1, 366}, {2001, 2, 28, 424}, {2001, 3, 1, 425}, {2001, 12, 31, 730}, {2004, 2, 29, 1520}, {2004, 3, 1, 1521},
		{2100, 2, 28, 36583}, {2100, 3, 1, 36584}, {2200, 2, 28, 73107}, {2200, 3, 1, 73108},
		{2273, 10, 14, 99998}, {2273, 10, 15, 99999},
	}
	for _, c := range cases {
		checkResult(t, fmt.Sprintf("DayOf(%d, %d, %d)", c.year, c.month, c.date), coded(impl.DayOf(c.year, c.month, c.date)), coded(c.day, impl.OK))
		checkResult(t, fmt.Sprintf("DateOf(%d)", c.day), dateOf(c.day), codedDate{c.year, c.month, c.date, impl.OK})
	}
}

func TestP4DayOfRefuses(t *testing.T) {
	dates := [][3]int64{
		{2001, 2, 29}, {2000, 2, 30}, {2004, 2, 30}, {2100, 2, 29}, {2200, 2, 29}, {2273, 2, 29}, {2000, 2, 31}, {2001, 2, 30},
		{2000, 4, 31}, {2000, 6, 31}, {2000, 9, 31}, {2000, 11, 31}, {2000, 1, 32}, {2000, 12, 32}, {2000, 1, 0}, {2000, 3, 0},
		{2000, 1, -1}, {2000, 0, 1}, {2000, -1, 1}, {2000, 13, 1}, {2000, 14, 1}, {2001, 0, 31}, {1999, 12, 31}, {1999, 1, 1},
		{0, 1, 1}, {-2000, 1, 1}, {2273, 10, 16}, {2273, 10, 31}, {2273, 11, 1}, {2273, 12, 31}, {2274, 1, 1}, {2400, 2, 29},
		{minInt, 1, 1}, {maxInt, 1, 1}, {2000, minInt, 1}, {2000, maxInt, 1}, {2000, 1, minInt}, {2000, 1, maxInt},
		{maxInt, maxInt, maxInt}, {minInt, minInt, minInt},
	}
	for _, d := range dates {
		checkResult(t, fmt.Sprintf("DayOf(%d, %d, %d)", d[0], d[1], d[2]), coded(impl.DayOf(d[0], d[1], d[2])), coded(0, impl.ErrRange))
	}
}

func TestP4DayOfAcceptsJustTheDatesOfDays(t *testing.T) {
	count := 0
	for year := int64(1998); year <= 2275; year++ {
		for month := int64(-1); month <= 14; month++ {
			for date := int64(-1); date <= 33; date++ {
				day, code := impl.DayOf(year, month, date)
				if code != impl.OK {
					checkResult(t, "DayOf with a code", coded(day, code), coded(0, impl.ErrRange))
					continue
				}
				count++
				checkResult(t, fmt.Sprintf("DateOf(%d)", day), dateOf(day), codedDate{year, month, date, impl.OK})
			}
		}
	}
	checkResult(t, "the number of dates", count, impl.MaxDay+1)
}

func TestP4DaysRefuse(t *testing.T) {
	for _, day := range []int64{-1, impl.MaxDay + 1, -impl.MaxDay, minInt, maxInt} {
		checkResult(t, fmt.Sprintf("DateOf(%d)", day), dateOf(day), codedDate{code: impl.ErrRange})
		checkResult(t, fmt.Sprintf("WeekDay(%d)", day), coded(impl.WeekDay(day)), coded(0, impl.ErrRange))
	}
}

func TestP4WeekDay(t *testing.T) {
	for day, want := range []int64{5, 6, 0, 1, 2, 3, 4, 5} {
		checkResult(t, fmt.Sprintf("WeekDay(%d)", day), coded(impl.WeekDay(int64(day))), coded(want, impl.OK))
	}
}

func TestP4DaysIn(t *testing.T) {
	for year := int64(2000); year <= 2273; year++ {
		for month := int64(1); month <= 12; month++ {
			last := time.Date(int(year), time.Month(month+1), 0, 0, 0, 0, 0, time.UTC)
			checkResult(t, fmt.Sprintf("DaysIn(%d, %d)", year, month), coded(impl.DaysIn(year, month)), coded(int64(last.Day()), impl.OK))
		}
	}
	for year, want := range map[int64]int64{2000: 29, 2001: 28, 2004: 29, 2100: 28, 2200: 28, 2272: 29, 2273: 28} {
		checkResult(t, fmt.Sprintf("DaysIn(%d, 2)", year), coded(impl.DaysIn(year, 2)), coded(want, impl.OK))
	}
	pairs := [][2]int64{
		{1999, 1}, {1999, 12}, {2274, 1}, {2000, 0}, {2000, 13}, {2000, -1}, {2273, 13},
		{minInt, 1}, {maxInt, 1}, {2000, minInt}, {2000, maxInt},
	}
	for _, p := range pairs {
		checkResult(t, fmt.Sprintf("DaysIn(%d, %d)", p[0], p[1]), coded(impl.DaysIn(p[0], p[1])), coded(0, impl.ErrRange))
	}
}

// Promise 4: moments.

func TestP4ValidMoment(t *testing.T) {
	for _, m := range validMoments() {
		checkResult(t, fmt.Sprintf("ValidMoment(%v)", m), impl.ValidMoment(m), true)
	}
	for _, m := range invalidMoments() {
		checkResult(t, fmt.Sprintf("ValidMoment(%v)", m), impl.ValidMoment(m), false)
	}
}

func TestP4InvalidMomentsAreRefusedFirst(t *testing.T) {
	wrong := coded(0, impl.ErrInvalid)
	noMoment := codedTime(impl.Moment{}, impl.ErrInvalid)
	for _, m := range invalidMoments() {
		for _, n := range []int64{0, 1, -1, impl.Circle, allMillis + 1, minInt, maxInt} {
			checkResult(t, fmt.Sprintf("MomentAfter(%v, %d)", m, n), codedTime(impl.MomentAfter(m, n)), noMoment)
			checkResult(t, fmt.Sprintf("SiderealAngle(%v, %d)", m, n), coded(impl.SiderealAngle(m, n)), wrong)
			checkResult(t, fmt.Sprintf("NextSidereal(%v, %d, 0)", m, n), codedTime(impl.NextSidereal(m, n, 0)), noMoment)
			checkResult(t, fmt.Sprintf("NextSidereal(%v, 0, %d)", m, n), codedTime(impl.NextSidereal(m, 0, n)), noMoment)
		}
		for _, other := range []impl.Moment{firstMoment, lastMoment, m} {
			checkResult(t, fmt.Sprintf("MilliBetween(%v, %v)", m, other), coded(impl.MilliBetween(m, other)), wrong)
			checkResult(t, fmt.Sprintf("MilliBetween(%v, %v)", other, m), coded(impl.MilliBetween(other, m)), wrong)
		}
		checkResult(t, fmt.Sprintf("SunLongitude(%v)", m), coded(impl.SunLongitude(m)), wrong)
		checkResult(t, fmt.Sprintf("SeasonOf(%v)", m), coded(impl.SeasonOf(m)), wrong)
		checkResult(t, fmt.Sprintf("MomentText(%v)", m), impl.MomentText(m), "")
	}
}

func TestP4MomentAfterCases(t *testing.T) {
	none := impl.Moment{}
	cases := []struct {
		from  impl.Moment
		milli int64
		want  impl.Moment
		code  int64
	}{
		{firstMoment, 0, firstMoment, impl.OK},
		{firstMoment, 1, impl.Moment{Milli: 1}, impl.OK},
		{firstMoment, impl.MilliDay - 1, impl.Moment{Milli: impl.MilliDay - 1}, impl.OK},
		{firstMoment, impl.MilliDay, impl.Moment{Day: 1}, impl.OK},
		{impl.Moment{Day: 59, Milli: impl.MilliDay - 1}, 1, impl.Moment{Day: 60}, impl.OK},
		{impl.Moment{Day: 60}, -1, impl.Moment{Day: 59, Milli: impl.MilliDay - 1}, impl.OK},
		{impl.Moment{Day: 60, Milli: 5}, -6, impl.Moment{Day: 59, Milli: impl.MilliDay - 1}, impl.OK},
		{impl.Moment{Day: 60, Milli: 5}, -5 - impl.MilliDay, impl.Moment{Day: 59}, impl.OK},
		{impl.Moment{Day: 60, Milli: 5}, -6 - impl.MilliDay, impl.Moment{Day: 58, Milli: impl.MilliDay - 1}, impl.OK},
		{impl.Moment{Day: 1, Milli: 1}, -1 - impl.MilliDay, firstMoment, impl.OK},
		{impl.Moment{Day: 1, Milli: 1}, -2 - impl.MilliDay, none, impl.ErrState},
		{firstMoment, -1, none, impl.ErrState},
		{firstMoment, allMillis - 1, lastMoment, impl.OK},
		{firstMoment, allMillis, none, impl.ErrState},
		{firstMoment, allMillis + 1, none, impl.ErrRange},
		{firstMoment, -allMillis, none, impl.ErrState},
		{firstMoment, -allMillis - 1, none, impl.ErrRange},
		{lastMoment, 0, lastMoment, impl.OK},
		{lastMoment, 1, none, impl.ErrState},
		{lastMoment, 1 - allMillis, firstMoment, impl.OK},
		{lastMoment, -allMillis, none, impl.ErrState},
		{lastMoment, -allMillis - 1, none, impl.ErrRange},
		{lastMoment, allMillis, none, impl.ErrState},
		{lastMoment, allMillis + 1, none, impl.ErrRange},
		{impl.Moment{Day: impl.MaxDay}, impl.MilliDay - 1, lastMoment, impl.OK},
		{impl.Moment{Day: impl.MaxDay}, impl.MilliDay, none, impl.ErrState},
		{impl.Moment{Day: 5}, minInt, none, impl.ErrRange},
		{impl.Moment{Day: 5}, maxInt, none, impl.ErrRange},
	}
	for _, c := range cases {
		checkResult(t, fmt.Sprintf("MomentAfter(%v, %d)", c.from, c.milli), codedTime(impl.MomentAfter(c.from, c.milli)), codedTime(c.want, c.code))
	}
}

func TestP4MilliBetween(t *testing.T) {
	for _, a := range validMoments() {
		for _, b := range validMoments() {
			between := millisOf(b) - millisOf(a)
			checkResult(t, fmt.Sprintf("MilliBetween(%v, %v)", a, b), coded(impl.MilliBetween(a, b)), coded(between, impl.OK))
			checkResult(t, fmt.Sprintf("MomentAfter(%v, %d)", a, between), codedTime(impl.MomentAfter(a, between)), codedTime(b, impl.OK))
		}
	}
	checkResult(t, "MilliBetween the ends", coded(impl.MilliBetween(firstMoment, lastMoment)), coded(allMillis-1, impl.OK))
	checkResult(t, "MilliBetween the ends, backwards", coded(impl.MilliBetween(lastMoment, firstMoment)), coded(1-allMillis, impl.OK))
}

// Promise 4: texts.

func plainMomentText(m impl.Moment) string {
	start := time.Date(2000, 1, 1, 0, 0, 0, 0, time.UTC)
	return start.AddDate(0, 0, int(m.Day)).Add(time.Duration(m.Milli) * time.Millisecond).Format("2006-01-02 15:04:05.000")
}

func checkMomentText(t *testing.T, m impl.Moment) {
	t.Helper()
	s := impl.MomentText(m)
	checkResult(t, fmt.Sprintf("MomentText(%v)", m), s, plainMomentText(m))
	if got, ok := impl.ReadMoment(s); got != m || !ok {
		t.Errorf("ReadMoment(%q): got %v, %t, want %v, true", s, got, ok, m)
	}
}

func TestP4MomentIsReadBack(t *testing.T) {
	checkResult(t, "MomentText of the first moment", impl.MomentText(firstMoment), "2000-01-01 00:00:00.000")
	checkResult(t, "MomentText of the last moment", impl.MomentText(lastMoment), "2273-10-15 23:59:59.999")
	for _, m := range validMoments() {
		checkMomentText(t, m)
	}
	for _, milli := range []int64{0, 1, 9, 10, 99, 100, 999, 1000, 59999, 60000, 3599999, 3600000, 35999999, 36000000, 86399000} {
		checkMomentText(t, impl.Moment{Day: 59, Milli: milli})
	}
	random := rand.New(rand.NewSource(7))
	for range 5000 {
		checkMomentText(t, momentAt(random.Int63n(allMillis)))
	}
}

func TestP4ReadMomentRefuses(t *testing.T) {
	texts := []string{
		"2001-02-29 00:00:00.000", "2100-02-29 00:00:00.000", "2000-02-30 00:00:00.000", "2000-04-31 00:00:00.000",
		"2000-00-01 00:00:00.000", "2000-13-01 00:00:00.000", "2000-01-00 00:00:00.000", "2000-01-32 00:00:00.000",
		"1999-12-31 23:59:59.999", "0000-01-01 00:00:00.000", "2273-10-16 00:00:00.000", "2274-01-01 00:00:00.000",
		"2000-01-01 24:00:00.000", "2000-01-01 00:60:00.000", "2000-01-01 00:00:60.000", "2000-01-01 23:59:60.000", "2000-01-01 99:99:99.999",
		"2000-01-01 00:00:00", "2000-01-01 00:00:00.", "2000-01-01 00:00:00.00", "2000-01-01 00:00:00.0000", "2000-01-01", "2000",
		"2000-1-01 00:00:00.0000", "2000-1-1 0:0:0.0", "02000-01-01 00:00:00.000", "200-01-01 00:00:00.000",
		"2000-01-01T00:00:00.000", "2000/01/01 00:00:00.000", "2000-01-01 00.00.00.000", "2000-01-01 00:00:00:000", "2000-01-01 00:00:00,000",
		"2000-01-01  00:00:00.000", " 2000-01-01 00:00:00.000", "2000-01-01 00:00:00.000 ", "2000-01-01 00:00:00.000\n", "2000-01-01\t00:00:00.000",
		"2000-01-0a 00:00:00.000", "2000-01-01 0a:00:00.000", "2000-01-01 00:00:00.00a", "a000-01-01 00:00:00.000",
		"+200-01-01 00:00:00.000", "2000-+1-01 00:00:00.000", "2000-01-+1 00:00:00.000", "2000-01-01 +1:00:00.000", "2000-01-01 -1:00:00.000",
		"2000-01-01 -0:00:00.000", "2000-01-01 00:-1:00.000", "2000-01-01 00:01:-1.000", "2000-01-01 00:00:01.-01", "2000-01-01 00:00:00.+01",
		"2000-01-01 0_:00:00.000", "2000-01-01 00:00:00.0_0", "2000-01-01 00:00:00.000\x00", "\xff000-01-01 00:00:00.000",
		"\u0662000-01-01 00:00:00.00", strings.Repeat("2000-01-01 00:00:00.000", 2),
	}
	for _, s := range append(texts, edgeTexts()...) {
		if m, ok := impl.ReadMoment(s); m != (impl.Moment{}) || ok {
			t.Errorf("ReadMoment(%.60q): got %v, %t, want the zero Moment and false", s, m, ok)
		}
	}
}

func TestP4ReadMomentRefusesChangedBytes(t *testing.T) {
	whole := "2004-02-29 12:34:56.789"
	for i := range len(whole) {
		for b := range 256 {
			s := whole[:i] + string([]byte{byte(b)}) + whole[i+1:]
			if m, ok := impl.ReadMoment(s); ok && impl.MomentText(m) != s || !ok && m != (impl.Moment{}) {
				t.Errorf("ReadMoment(%q): got %v, %t", s, m, ok)
			}
		}
		if m, ok := impl.ReadMoment(whole[:i]); ok || m != (impl.Moment{}) {
			t.Errorf("ReadMoment(%q): got %v, %t", whole[:i], m, ok)
		}
	}
}

// Promise 4: the sky.

// plainPart returns millis * factor / divisor, rounded down, with numbers of any size.
func plainPart(millis, factor, divisor int64) int64 {
	product := new(big.Int).Mul(big.NewInt(millis), big.NewInt(factor))
	return product.Div(product, big.NewInt(divisor)).Int64()
}

func plainTurned(millis int64) int64 {
	return plainPart(millis, 1, 240) + plainPart(millis, 985647, 86400000000)
}

func plainSidereal(millis, longitude int64) int64 {
	return plainForwards(0, 99968+longitude+plainTurned(millis))
}

func TestP4SiderealAngle(t *testing.T) {
	checkResult(t, "SiderealAngle of the first moment", coded(impl.SiderealAngle(firstMoment, 0)), coded(99968, impl.OK))
	checkResult(t, "SiderealAngle of the first moment over 359999", coded(impl.SiderealAngle(firstMoment, 359999)), coded(99967, impl.OK))
	checkResult(t, "SiderealAngle of the last moment", coded(impl.SiderealAngle(lastMoment, 0)), coded(24666, impl.OK))
	checkResult(t, "SiderealAngle before the sky turns on", coded(impl.SiderealAngle(impl.Moment{Milli: 239}, 0)), coded(99968, impl.OK))
	checkResult(t, "SiderealAngle after the sky turned on", coded(impl.SiderealAngle(impl.Moment{Milli: 240}, 0)), coded(99969, impl.OK))
	moments := validMoments()
	random := rand.New(rand.NewSource(8))
	for range 2000 {
		moments = append(moments, momentAt(random.Int63n(allMillis)))
	}
	for _, m := range moments {
		for _, longitude := range []int64{0, 1, 15000, 180000, 260031, 260032, impl.Circle - 1} {
			want := coded(plainSidereal(millisOf(m), longitude), impl.OK)
			checkResult(t, fmt.Sprintf("SiderealAngle(%v, %d)", m, longitude), coded(impl.SiderealAngle(m, longitude)), want)
		}
		for _, longitude := range []int64{-1, impl.Circle, -impl.Circle, minInt, maxInt} {
			checkResult(t, fmt.Sprintf("SiderealAngle(%v, %d)", m, longitude), coded(impl.SiderealAngle(m, longitude)), coded(0, impl.ErrRange))
		}
	}
}

// checkNextSidereal checks that the sky has turned far enough at the moment found, and not one millisecond before it.
func checkNextSidereal(t *testing.T, m impl.Moment, longitude, angle int64) {
	t.Helper()
	call := fmt.Sprintf("NextSidereal(%v, %d, %d)", m, longitude, angle)
	start := millisOf(m)
	goal := plainTurned(start) + plainForwards(plainSidereal(start, longitude), angle)
	found, code := impl.NextSidereal(m, longitude, angle)
	if plainTurned(allMillis-1) < goal {
		checkResult(t, call, codedTime(found, code), codedTime(impl.Moment{}, impl.ErrState))
		return
	}
	if code != impl.OK || !impl.ValidMoment(found) || millisOf(found) < start {
		t.Errorf("%s: got %v, %d", call, found, code)
		return
	}
	millis := millisOf(found)
	if plainTurned(millis) < goal || millis > start && plainTurned(millis-1) >= goal {
		t.Errorf("%s: got %v, which is not the first moment", call, found)
	}
	// Where both parts of a turn go on in the same millisecond, an angle is passed over.
	if between := plainForwards(angle, plainSidereal(millis, longitude)); between > 1 {
		t.Errorf("%s: at %v, the sky has turned too far by %d", call, found, between)
	}
}

func TestP4NextSiderealIsTheFirstMoment(t *testing.T) {
	edges := []int64{0, 1, 99967, 99968, 99969, 180000, impl.Circle - 2, impl.Circle - 1}
	for _, m := range validMoments() {
		for _, longitude := range edges {
			for _, angle := range edges {
				checkNextSidereal(t, m, longitude, angle)
			}
			now := plainSidereal(millisOf(m), longitude)
			checkResult(t, fmt.Sprintf("NextSidereal(%v, %d, %d)", m, longitude, now), codedTime(impl.NextSidereal(m, longitude, now)), codedTime(m, impl.OK))
			for _, angle := range []int64{plainForwards(0, now+1), plainForwards(0, now-1)} {
				checkNextSidereal(t, m, longitude, angle)
			}
		}
	}
	random := rand.New(rand.NewSource(9))
	for range 3000 {
		checkNextSidereal(t, momentAt(random.Int63n(allMillis)), random.Int63n(impl.Circle), random.Int63n(impl.Circle))
	}
}

func TestP4NextSiderealLooksAtEachMoment(t *testing.T) {
	const longitude, angle = 15000, 117000
	for millis := int64(0); plainSidereal(millis, longitude) != angle; millis++ {
		if plainSidereal(millis+1, longitude) == angle {
			checkResult(t, "NextSidereal", codedTime(impl.NextSidereal(firstMoment, longitude, angle)), codedTime(momentAt(millis+1), impl.OK))
		}
	}
	checkResult(t, "NextSidereal(0, 0, 100000)", codedTime(impl.NextSidereal(firstMoment, 0, 100000)), codedTime(impl.Moment{Milli: 7680}, impl.OK))
	checkResult(t, "NextSidereal(0, 0, 0)", codedTime(impl.NextSidereal(firstMoment, 0, 0)), codedTime(impl.Moment{Milli: 62237292}, impl.OK))
}

func TestP4NextSiderealAtTheEnd(t *testing.T) {
	last := plainSidereal(allMillis-1, 0)
	before := int64(allMillis - 1)
	for plainTurned(before) == plainTurned(allMillis-1) {
		before--
	}
	// The last angle is first reached one millisecond after it was not.
	reached := codedTime(momentAt(before+1), impl.OK)
	checkResult(t, "NextSidereal of the last angle", codedTime(impl.NextSidereal(momentAt(before), 0, last)), reached)
	checkResult(t, "NextSidereal of the last angle at the end", codedTime(impl.NextSidereal(lastMoment, 0, last)), codedTime(lastMoment, impl.OK))
	none := codedTime(impl.Moment{}, impl.ErrState)
	for _, m := range []impl.Moment{momentAt(before), lastMoment} {
		next := plainForwards(0, last+1)
		checkResult(t, fmt.Sprintf("NextSidereal(%v, 0, %d)", m, next), codedTime(impl.NextSidereal(m, 0, next)), none)
	}
	for angle := int64(0); angle < impl.Circle; angle += 1000 {
		for _, m := range []impl.Moment{{Day: impl.MaxDay - 1}, {Day: impl.MaxDay}, {Day: impl.MaxDay, Milli: 300000}, {Day: impl.MaxDay, Milli: 43200000}} {
			checkNextSidereal(t, m, 0, angle)
		}
	}
}

func TestP4NextSiderealRefuses(t *testing.T) {
	wrong := codedTime(impl.Moment{}, impl.ErrRange)
	for _, m := range []impl.Moment{firstMoment, {Day: 500, Milli: 77}, lastMoment} {
		for _, n := range []int64{-1, impl.Circle, -impl.Circle, minInt, maxInt} {
			for _, other := range []int64{0, 99968, impl.Circle - 1, n} {
				checkResult(t, fmt.Sprintf("NextSidereal(%v, %d, %d)", m, n, other), codedTime(impl.NextSidereal(m, n, other)), wrong)
				checkResult(t, fmt.Sprintf("NextSidereal(%v, %d, %d)", m, other, n), codedTime(impl.NextSidereal(m, other, n)), wrong)
			}
		}
	}
}

// Promise 4: the sun.

func plainSun(sines []int64, millis int64) int64 {
	g := 357035 + plainPart(millis, 985600, 86400000000)
	sum := 279967 + plainPart(millis, 985647, 86400000000)
	sum += plainQuotient(1915*sines[g%360000], 1000000) + plainQuotient(20*sines[2*g%360000], 1000000)
	return plainForwards(0, sum)
}

func checkSun(t *testing.T, sines []int64, m impl.Moment) {
	t.Helper()
	want := plainSun(sines, millisOf(m))
	checkResult(t, fmt.Sprintf("SunLongitude(%v)", m), coded(impl.SunLongitude(m)), coded(want, impl.OK))
	checkResult(t, fmt.Sprintf("SeasonOf(%v)", m), coded(impl.SeasonOf(m)), coded(want/90000+1, impl.OK))
}

func TestP4SunLongitude(t *testing.T) {
	sines := allSines()
	for _, m := range validMoments() {
		checkSun(t, sines, m)
	}
	for hour := range int64(366 * 24) {
		checkSun(t, sines, momentAt(hour*3600000))
	}
	random := rand.New(rand.NewSource(10))
	for range 5000 {
		checkSun(t, sines, momentAt(random.Int63n(allMillis)))
	}
}

func TestP4SeasonsOverAYear(t *testing.T) {
	// The days of 2000 before which the sun enters a new quarter, and the season that begins then.
	begins := map[int64]int64{0: 4, 80: 1, 173: 2, 266: 3, 356: 4}
	season := int64(0)
	for day := range int64(366) {
		if next, ok := begins[day]; ok {
			season = next
		}
		checkResult(t, fmt.Sprintf("SeasonOf the day %d", day), coded(impl.SeasonOf(impl.Moment{Day: day})), coded(season, impl.OK))
	}
}
