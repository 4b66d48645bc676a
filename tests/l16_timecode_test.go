package tests

import (
	"fmt"
	"math/big"
	"math/rand"
	"slices"
	"strings"
	"testing"

	"loop.example/g00955/impl"
)

// codedCode is a time code with its code.
type codedCode struct {
	clock impl.Code
	code  int64
}

func codedClock(c impl.Code, code int64) codedCode { return codedCode{c, code} }

func clock(hours, minutes, seconds, frames, rate int64) impl.Code {
	return impl.Code{Hours: hours, Minutes: minutes, Seconds: seconds, Frames: frames, Rate: rate}
}

func allRates() []int64 { return []int64{24, 25, 30} }

// noRates are numbers that are none of the three rates.
func noRates() []int64 {
	return []int64{0, 1, 23, 26, 29, 31, 48, 50, 60, -24, -25, -30, 256 + 24, 1<<32 + 25, 1<<32 + 30, minInt, maxInt}
}

// dayFrames returns the number of the codes of a day.
func dayFrames(rate int64) int64 {
	return map[int64]int64{24: 2073600, 25: 2160000, 30: 2589408}[rate]
}

// existsPlainly follows the text of the document, for a code whose fields are in their ranges.
func existsPlainly(c impl.Code) bool {
	return c.Rate != 30 || c.Seconds != 0 || c.Frames > 1 || c.Minutes%10 == 0
}

// isPlainCode follows the text of the document.
func isPlainCode(c impl.Code) bool {
	return slices.Contains(allRates(), c.Rate) && c.Hours >= 0 && c.Hours <= 23 && c.Minutes >= 0 && c.Minutes <= 59 && c.Seconds >= 0 && c.Seconds <= 59 && c.Frames >= 0 && c.Frames < c.Rate && existsPlainly(c)
}

// validCodes are those at the ends of the fields, around the minutes, and some others, for each rate.
func validCodes() []impl.Code {
	list, random := []impl.Code{}, rand.New(rand.NewSource(170))
	for _, rate := range allRates() {
		list = append(list, clock(0, 0, 0, 0, rate), clock(23, 59, 59, rate-1, rate))
		for _, minutes := range []int64{0, 1, 2, 9, 10, 11, 19, 20, 30, 40, 50, 51, 59} {
			list = append(list, clock(0, minutes, 0, 2, rate), clock(12, minutes, 1, 0, rate), clock(23, minutes, 59, rate-1, rate))
		}
		for range 60 {
			c := clock(random.Int63n(24), random.Int63n(60), random.Int63n(60), random.Int63n(rate), rate)
			if isPlainCode(c) {
				list = append(list, c)
			}
		}
	}
	return append(list, clock(0, 1, 0, 0, 24), clock(0, 1, 0, 1, 25), clock(0, 10, 0, 0, 30), clock(23, 50, 0, 1, 30))
}

// invalidCodes have a field that no code has, or do not exist.
func invalidCodes() []impl.Code {
	list := []impl.Code{{}, {Hours: 1}, {Frames: 1}}
	for _, rate := range allRates() {
		for _, n := range []int64{-1, 60, 61, 100, -60, 1 << 32, minInt, minInt + 1, maxInt - 1, maxInt} {
			list = append(list, clock(n, 0, 0, 5, rate), clock(0, n, 0, 5, rate), clock(0, 0, n, 5, rate), clock(0, 0, 0, n, rate), clock(n, n, n, n, rate), clock(5, n, 5, 0, rate), clock(5, 1, n, 1, rate))
		}
		list = append(list, clock(24, 0, 0, 5, rate), clock(24, 0, 0, 0, rate), clock(0, 0, 0, rate, rate), clock(23, 59, 59, rate, rate), clock(0, 0, 5, rate+1, rate), clock(25, 5, 5, 5, rate))
	}
	for _, rate := range noRates() {
		list = append(list, clock(0, 0, 0, 0, rate), clock(0, 0, 0, 5, rate), clock(23, 59, 59, 23, rate), clock(0, 1, 0, 0, rate))
	}
	for minutes := range int64(60) {
		if minutes%10 != 0 {
			list = append(list, clock(0, minutes, 0, 0, 30), clock(0, minutes, 0, 1, 30), clock(23, minutes, 0, minutes%2, 30))
		}
	}
	return list
}

// clockCalls are those of all functions that take time codes and a number.
func clockCalls(c, d impl.Code, n int64) []horizonCall {
	arguments := fmt.Sprintf("(%v, %v, %d)", c, d, n)
	return []horizonCall{
		{"FrameOf" + arguments, coded(impl.FrameOf(c))}, {"AddFrames" + arguments, codedClock(impl.AddFrames(c, n))}, {"ConvertCode" + arguments, codedClock(impl.ConvertCode(c, n))},
		{"FramesBetween" + arguments, coded(impl.FramesBetween(c, d))}, {"FramesBetween backwards " + arguments, coded(impl.FramesBetween(d, c))},
	}
}

// rateCalls are those of all functions that take a number and a rate only.
func rateCalls(n, rate int64) []horizonCall {
	arguments := fmt.Sprintf("(%d, %d)", n, rate)
	return []horizonCall{{"CodeAt" + arguments, codedClock(impl.CodeAt(n, rate))}, {"MilliOf" + arguments, coded(impl.MilliOf(n, rate))}, {"FrameAt" + arguments, coded(impl.FrameAt(n, rate))}}
}

// driftCalls are those of the functions of clocks that run fast or slow.
func driftCalls(list [][]int64, frames []int64, milli, offset, speed int64) []horizonCall {
	return []horizonCall{
		{fmt.Sprintf("DriftOf(%.300s)", fmt.Sprint(list)), codedBoth(impl.DriftOf(list))}, {fmt.Sprintf("MissingFrames(%.300s)", fmt.Sprint(frames)), codedMany(impl.MissingFrames(frames))},
		{fmt.Sprintf("CorrectTime(%d, %d, %d)", milli, offset, speed), coded(impl.CorrectTime(milli, offset, speed))},
	}
}

// readings returns lists of two numbers each.
func readings(numbers ...int64) [][]int64 {
	list := [][]int64{}
	for i := 0; i+1 < len(numbers); i += 2 {
		list = append(list, []int64{numbers[i], numbers[i+1]})
	}
	return list
}

// evenReadings returns a number of readings of clocks that run equally fast.
func evenReadings(count int) [][]int64 {
	list := [][]int64{}
	for i := range int64(count) {
		list = append(list, []int64{10 * i, 10*i + 7})
	}
	return list
}

// noReadings are lists that DriftOf refuses.
func noReadings() [][][]int64 {
	lists := [][][]int64{
		nil, {}, evenReadings(1), evenReadings(65), evenReadings(66), evenReadings(1000), make([][]int64, 2), make([][]int64, 64),
		// Lists of too few or too many numbers.
		{{}, {1, 2}}, {{1, 2}, {}}, {{1}, {2, 3}}, {{1, 2}, {3}}, {{1, 2, 3}, {4, 5}}, {{1, 2}, {3, 4, 5}}, {{1, 2}, nil, {3, 4}}, {{1, 2}, {3}, {4, 5}}, {{1, 2}, {3, 4, 5}, {6, 7}}, {{1}, {2}}, {{1, 2, 3}, {4, 5, 6}}, {{0, 0, 0, 0}},
		// Times of this clock that are equal, or decrease.
		readings(0, 0, 0, 0), readings(5, 1, 5, 2), readings(86400000, 0, 86400000, 1), readings(1, 0, 0, 1), readings(86400000, 0, 0, 86400000), readings(0, 0, 5, 0, 5, 0, 6, 0), readings(0, 0, 5, 0, 4, 0, 6, 0), readings(0, 0, 5, 5, 5, 5),
	}
	for _, n := range []int64{-1, 86400001, -86400000, 1 << 32, minInt, minInt + 1, maxInt - 1, maxInt} {
		lists = append(lists, readings(n, 5, 10, 5), readings(5, n, 10, 5), readings(5, 5, n, 5), readings(5, 5, 10, n), readings(5, 5, n, 5, 10, 5), readings(5, 5, 6, n, 10, 5), readings(n, n, n, n))
	}
	return lists
}

// noFrames are lists that MissingFrames refuses with ErrRange.
func noFrames() [][]int64 {
	lists := [][]int64{{5, 5}, {5, 4}, {0, 0}, {1, 0}, {8640000, 8640000}, {8640000, 0}, {0, 5, 5}, {0, 5, 4, 6}, {1, 2, 3, 3}, {3, 2, 1}, {0, 8640000, 8640000}, {0, 100, 99}}
	for _, n := range []int64{-1, 8640001, -8640000, 1 << 32, minInt, minInt + 1, maxInt - 1, maxInt} {
		lists = append(lists, []int64{n}, []int64{n, 5}, []int64{5, n}, []int64{n, 0, 1}, []int64{0, n, 5}, []int64{0, 8640000, n}, []int64{n, n})
	}
	return lists
}

// Promise 1, for the functions of chapter 16.

func TestP1CodesReturnEqualResults(t *testing.T) {
	numbers := append(edgeNumbers(), 24, 25, 30, 1001, 8640000, 8640001, 86400000, 86400001, -86400000, 2000000, 2000001)
	list := append(validCodes(), invalidCodes()...)
	for i, c := range list {
		d := list[(7*i+1)%len(list)]
		for k := range 6 {
			n, o := numbers[(5*i+11*k)%len(numbers)], numbers[(3*i+7*k)%len(numbers)]
			checkRepeats(t, fmt.Sprintf("functions of the codes %v, %v and the numbers %d, %d", c, d, n, o), func() []any {
				calls := slices.Concat(clockCalls(c, d, n), rateCalls(n, o), rateCalls(o, allRates()[k%3]), driftCalls(readings(n, o, o, n), []int64{n, o}, n, o, c.Hours))
				return append(resultsOf(calls...), impl.ValidCode(c), impl.CodeText(c))
			})
		}
	}
	for _, lists := range append(noReadings(), evenReadings(64), evenReadings(2)) {
		for _, frames := range append(noFrames(), nil, countingList(70)) {
			checkRepeats(t, "functions of lists", func() []any { return resultsOf(driftCalls(lists, frames, 5, 5, 5)...) })
		}
	}
	for _, s := range edgeTexts() {
		for _, text := range []string{s, s + ":00:00:00@24", "00:00:00:00@" + s, "00:" + s + ":00:00@24", s + "@25"} {
			checkRepeats(t, fmt.Sprintf("ReadCode(%.60q)", text), func() []any {
				c, ok := impl.ReadCode(text)
				return []any{c, ok}
			})
		}
	}
}

// TestP1CodesTakeNumbersAtTheEnds calls all functions with pairs of numbers at the ends of int64 and of the ranges.
func TestP1CodesTakeNumbersAtTheEnds(t *testing.T) {
	numbers := append(edgeNumbers(), 8640000, 8640001, 86400000, 86400001, 2589407, 2589408)
	for _, n := range numbers {
		for _, o := range append(numbers, allRates()...) {
			calls := slices.Concat(rateCalls(n, o), driftCalls(readings(n, o, o, n), []int64{n, o}, n, o, o), driftCalls(readings(0, n, 86400000, o), []int64{0, n, o}, o, n, n))
			for _, c := range append(validCodes()[:3], clock(n, o, n, o, 30), clock(0, n, 0, o, 30), clock(n, n, n, n, o)) {
				calls = append(calls, clockCalls(c, clock(o, n, o, n, 24), n)...)
			}
			for _, c := range calls {
				if made, isMade := c.result.(codedCode); isMade && (made.code == impl.OK) != impl.ValidCode(made.clock) {
					t.Errorf("%s: %v", c.call, made)
				}
			}
		}
	}
}

func TestP1ListsOfClocksAreKept(t *testing.T) {
	for _, list := range append(noReadings(), evenReadings(2), evenReadings(64), readings(0, 5, 7, 3, 86400000, 9)) {
		whole := [][]int64{}
		for _, times := range list {
			whole = append(whole, slices.Concat(times, []int64{7777, -7777})[:len(times)])
		}
		before := cloneOfLines(whole)
		checkListKept(t, "DriftOf", whole, readings(7777, -7777), func(l [][]int64) { impl.DriftOf(l) })
		checkResult(t, "readings behind DriftOf", whole, before)
		for _, times := range whole {
			if rest := times[len(times):cap(times)]; len(rest) >= 2 && (rest[0] != 7777 || rest[1] != -7777) {
				t.Errorf("DriftOf(%v): changed what is behind its lists", before)
			}
		}
	}
	for _, frames := range append(noFrames(), nil, []int64{5}, []int64{5, 6, 9}, countingList(64), []int64{0, 65}, []int64{0, 66}) {
		checkKept(t, "MissingFrames", frames, func(l []int64) { impl.MissingFrames(l) })
	}
	for _, frames := range [][]int64{nil, {5}, {5, 6, 9}, {0, 2, 4, 6}, {0, 65}} {
		whole := slices.Concat(frames, []int64{7777, 7778, 7779})
		before := slices.Clone(whole)
		checkNewNumbers(t, "MissingFrames", func() []int64 {
			missing, code := impl.MissingFrames(whole[:len(frames)])
			return withoutCode(t, missing, code)
		}, func() bool { return slices.Equal(whole, before) })
	}
}

// Promise 17: time codes.

func TestP17CodeConstants(t *testing.T) {
	constants := []int64{impl.MaxFrame, impl.RateFilm, impl.RateVideo, impl.RateDrop, impl.MaxSpeed}
	checkResult(t, "constants", constants, []int64{8640000, 24, 25, 30, 2000000})
}

func TestP17ValidCode(t *testing.T) {
	for _, c := range validCodes() {
		checkResult(t, fmt.Sprintf("ValidCode(%v)", c), impl.ValidCode(c), true)
	}
	for _, c := range invalidCodes() {
		checkResult(t, fmt.Sprintf("ValidCode(%v)", c), impl.ValidCode(c), false)
	}
	for _, rate := range append(noRates(), allRates()...) {
		for minutes := int64(-1); minutes <= 60; minutes++ {
			for _, hours := range []int64{-1, 0, 9, 10, 23, 24} {
				for _, seconds := range []int64{-1, 0, 1, 10, 59, 60} {
					for _, frames := range []int64{-1, 0, 1, 2, 3, 23, 24, 25, 29, 30} {
						if c := clock(hours, minutes, seconds, frames, rate); impl.ValidCode(c) != isPlainCode(c) {
							t.Errorf("ValidCode(%v): got %t", c, !isPlainCode(c))
						}
					}
				}
			}
		}
	}
}

func TestP17InvalidCodesAreRefusedFirst(t *testing.T) {
	valid := validCodes()
	for i, c := range invalidCodes() {
		for _, n := range []int64{0, 1, 24, 25, 30, -8640000, 8640000, 8640001, -8640001, 23, 31, minInt, maxInt} {
			checkRefused(t, clockCalls(c, valid[i%len(valid)], n), impl.ErrInvalid)
			checkRefused(t, clockCalls(c, c, n), impl.ErrInvalid)
			// Of two codes, it does not matter which one is not valid.
			checkRefused(t, clockCalls(valid[i%len(valid)], c, n)[3:], impl.ErrInvalid)
		}
	}
}

func TestP17OtherRatesAreRefused(t *testing.T) {
	for _, rate := range noRates() {
		for _, n := range []int64{0, 1, 1000, 2589407, 8640000, 86400000, -1, 86400001, minInt, maxInt} {
			checkRefused(t, rateCalls(n, rate), impl.ErrRange)
		}
		for _, c := range validCodes() {
			checkResult(t, fmt.Sprintf("ConvertCode(%v, %d)", c, rate), codedClock(impl.ConvertCode(c, rate)), codedCode{impl.Code{}, impl.ErrRange})
		}
	}
}

// Promise 17: frames and codes.

func TestP17FrameOfCases(t *testing.T) {
	cases := []struct {
		c     impl.Code
		frame int64
	}{
		{clock(0, 0, 0, 0, 24), 0}, {clock(0, 0, 0, 0, 25), 0}, {clock(0, 0, 0, 0, 30), 0}, {clock(0, 0, 0, 23, 24), 23}, {clock(0, 0, 1, 0, 24), 24}, {clock(0, 0, 1, 0, 25), 25}, {clock(0, 0, 1, 0, 30), 30}, {clock(0, 1, 0, 0, 24), 1440}, {clock(0, 1, 0, 0, 25), 1500}, {clock(1, 0, 0, 0, 24), 86400}, {clock(1, 0, 0, 0, 25), 90000}, {clock(1, 0, 0, 0, 30), 107892},
		// The last ones of the day.
		{clock(23, 59, 59, 23, 24), 2073599}, {clock(23, 59, 59, 24, 25), 2159999}, {clock(23, 59, 59, 29, 30), 2589407},
		// Around the minutes with RateDrop.
		{clock(0, 0, 59, 29, 30), 1799}, {clock(0, 1, 0, 2, 30), 1800}, {clock(0, 1, 0, 3, 30), 1801}, {clock(0, 1, 1, 0, 30), 1828}, {clock(0, 1, 59, 29, 30), 3597}, {clock(0, 2, 0, 2, 30), 3598}, {clock(0, 8, 59, 29, 30), 16183}, {clock(0, 9, 0, 2, 30), 16184}, {clock(0, 9, 59, 29, 30), 17981}, {clock(0, 10, 0, 0, 30), 17982}, {clock(0, 10, 0, 1, 30), 17983}, {clock(0, 10, 0, 2, 30), 17984}, {clock(0, 10, 59, 29, 30), 19781}, {clock(0, 11, 0, 2, 30), 19782}, {clock(0, 59, 59, 29, 30), 107891}, {clock(1, 0, 59, 29, 30), 109691}, {clock(1, 1, 0, 2, 30), 109692}, {clock(23, 50, 0, 0, 30), 2571426},
	}
	for _, c := range cases {
		checkResult(t, fmt.Sprintf("FrameOf(%v)", c.c), coded(impl.FrameOf(c.c)), coded(c.frame, impl.OK))
		checkResult(t, fmt.Sprintf("CodeAt(%d, %d)", c.frame, c.c.Rate), codedClock(impl.CodeAt(c.frame, c.c.Rate)), codedCode{c.c, impl.OK})
	}
}

func TestP17CodeAtRefuses(t *testing.T) {
	for _, rate := range allRates() {
		last := dayFrames(rate) - 1
		checkResult(t, fmt.Sprintf("CodeAt(%d, %d)", last, rate), codedClock(impl.CodeAt(last, rate)), codedCode{clock(23, 59, 59, rate-1, rate), impl.OK})
		for _, frame := range []int64{-1, last + 1, last + 2, -last, 2592000, 8640000, 1 << 32, minInt, minInt + 1, maxInt - 1, maxInt} {
			checkResult(t, fmt.Sprintf("CodeAt(%d, %d)", frame, rate), codedClock(impl.CodeAt(frame, rate)), codedCode{impl.Code{}, impl.ErrRange})
		}
	}
}

// TestP17FramesAndCodesLeadToEachOther counts all codes of a day and looks at those of some hours, and of all minutes at their ends.
func TestP17FramesAndCodesLeadToEachOther(t *testing.T) {
	for _, rate := range allRates() {
		frame := int64(0)
		for second := range int64(86400) {
			for frames := range rate {
				c := clock(second/3600, second/60%60, second%60, frames, rate)
				if !existsPlainly(c) {
					continue
				}
				if slices.Contains([]int64{0, 1, 9, 13, 23}, c.Hours) || c.Seconds == 0 || c.Seconds == 59 {
					number, code := impl.FrameOf(c)
					back, backCode := impl.CodeAt(frame, rate)
					if number != frame || code != impl.OK || back != c || backCode != impl.OK {
						t.Fatalf("frame %d and code %v: FrameOf is %d, %d, and CodeAt is %v, %d", frame, c, number, code, back, backCode)
					}
				}
				frame++
			}
		}
		checkResult(t, fmt.Sprintf("the number of codes with the rate %d", rate), frame, dayFrames(rate))
	}
}

// Promise 17: frames and times.

func TestP17MilliOfCases(t *testing.T) {
	cases := []struct{ frame, rate, milli int64 }{
		{0, 24, 0}, {0, 25, 0}, {0, 30, 0}, {1, 24, 41}, {2, 24, 83}, {3, 24, 125}, {4, 24, 166}, {23, 24, 958}, {24, 24, 1000}, {25, 24, 1041}, {1, 25, 40}, {2, 25, 80}, {24, 25, 960}, {25, 25, 1000}, {26, 25, 1040}, {1, 30, 33}, {2, 30, 66}, {3, 30, 100}, {4, 30, 133}, {29, 30, 967}, {30, 30, 1001}, {31, 30, 1034}, {60, 30, 2002}, {899, 30, 29996}, {900, 30, 30030}, {30000, 30, 1001000},
		{2073599, 24, 86399958}, {2073600, 24, 86400000}, {2159999, 25, 86399960}, {2160000, 25, 86400000}, {2589407, 30, 86399880}, {2589408, 30, 86399913}, {8639999, 24, 359999958}, {8640000, 24, 360000000}, {8639999, 25, 345599960}, {8640000, 25, 345600000}, {8639999, 30, 288287966}, {8640000, 30, 288288000},
	}
	for _, c := range cases {
		checkResult(t, fmt.Sprintf("MilliOf(%d, %d)", c.frame, c.rate), coded(impl.MilliOf(c.frame, c.rate)), coded(c.milli, impl.OK))
	}
	for _, rate := range allRates() {
		for _, frame := range []int64{-1, 8640001, -8640000, 1 << 32, minInt, minInt + 1, maxInt - 1, maxInt} {
			checkResult(t, fmt.Sprintf("MilliOf(%d, %d)", frame, rate), coded(impl.MilliOf(frame, rate)), coded(0, impl.ErrRange))
		}
	}
}

func TestP17FrameAtCases(t *testing.T) {
	cases := []struct{ milli, rate, frame int64 }{
		{0, 24, 0}, {0, 25, 0}, {0, 30, 0}, {1, 24, 0}, {40, 24, 0}, {41, 24, 1}, {42, 24, 1}, {82, 24, 1}, {83, 24, 2}, {124, 24, 2}, {125, 24, 3}, {126, 24, 3}, {957, 24, 22}, {958, 24, 23}, {999, 24, 23}, {1000, 24, 24}, {1001, 24, 24}, {39, 25, 0}, {40, 25, 1}, {41, 25, 1}, {79, 25, 1}, {80, 25, 2}, {999, 25, 24}, {1000, 25, 25}, {32, 30, 0}, {33, 30, 1}, {65, 30, 1}, {66, 30, 2}, {99, 30, 2}, {100, 30, 3}, {966, 30, 28}, {967, 30, 29}, {1000, 30, 29}, {1001, 30, 30}, {1002, 30, 30}, {1001000, 30, 30000}, {1000999, 30, 29999},
		{86399957, 24, 2073598}, {86399958, 24, 2073599}, {86399999, 24, 2073599}, {86400000, 24, 2073600}, {86399959, 25, 2159998}, {86399960, 25, 2159999}, {86399999, 25, 2159999}, {86400000, 25, 2160000}, {86399879, 30, 2589406}, {86399880, 30, 2589407}, {86399913, 30, 2589408}, {86399979, 30, 2589409}, {86399980, 30, 2589410}, {86400000, 30, 2589410},
	}
	for _, c := range cases {
		checkResult(t, fmt.Sprintf("FrameAt(%d, %d)", c.milli, c.rate), coded(impl.FrameAt(c.milli, c.rate)), coded(c.frame, impl.OK))
	}
	for _, rate := range allRates() {
		for _, milli := range []int64{-1, 86400001, -86400000, 1 << 32, minInt, minInt + 1, maxInt - 1, maxInt} {
			checkResult(t, fmt.Sprintf("FrameAt(%d, %d)", milli, rate), coded(impl.FrameAt(milli, rate)), coded(0, impl.ErrRange))
		}
	}
}

// plainMilli follows the text of the document.
func plainMilli(frame, rate int64) int64 {
	if rate == 30 {
		return frame * 1001 / 30
	}
	return frame * 1000 / rate
}

func TestP17FramesAndTimesLeadToEachOther(t *testing.T) {
	for _, rate := range allRates() {
		for frame := int64(0); frame <= 8640000; frame++ {
			if frame > 20000 && frame < 2580000 && frame%37 != 0 || frame > 2600000 && frame%997 != 0 && frame < 8639000 {
				continue
			}
			milli, code := impl.MilliOf(frame, rate)
			if milli != plainMilli(frame, rate) || code != impl.OK {
				t.Fatalf("MilliOf(%d, %d): got %d, %d, want %d", frame, rate, milli, code, plainMilli(frame, rate))
			}
			if back, code := impl.FrameAt(milli, rate); milli <= 86400000 && (back != frame || code != impl.OK) {
				t.Fatalf("FrameAt(%d, %d): got %d, %d, want %d", milli, rate, back, code, frame)
			}
		}
		for milli := int64(0); milli <= 86400000; milli++ {
			if milli > 200000 && milli < 86200000 && milli%211 != 0 {
				continue
			}
			frame, code := impl.FrameAt(milli, rate)
			if code != impl.OK || plainMilli(frame, rate) > milli || plainMilli(frame+1, rate) <= milli {
				t.Fatalf("FrameAt(%d, %d): got %d, %d", milli, rate, frame, code)
			}
		}
	}
}

// Promise 17: codes on the way to others.

func TestP17AddFramesCases(t *testing.T) {
	none := codedCode{impl.Code{}, impl.ErrState}
	made := func(hours, minutes, seconds, frames, rate int64) codedCode {
		return codedCode{clock(hours, minutes, seconds, frames, rate), impl.OK}
	}
	cases := []struct {
		c      impl.Code
		frames int64
		want   codedCode
	}{
		{clock(0, 0, 0, 0, 24), 0, made(0, 0, 0, 0, 24)}, {clock(23, 59, 59, 29, 30), 0, made(23, 59, 59, 29, 30)}, {clock(0, 0, 0, 23, 24), 1, made(0, 0, 1, 0, 24)}, {clock(0, 0, 0, 23, 25), 1, made(0, 0, 0, 24, 25)}, {clock(0, 0, 59, 24, 25), 1, made(0, 1, 0, 0, 25)}, {clock(9, 59, 59, 23, 24), 1, made(10, 0, 0, 0, 24)}, {clock(10, 0, 0, 0, 25), -1, made(9, 59, 59, 24, 25)}, {clock(1, 2, 3, 4, 25), 90000, made(2, 2, 3, 4, 25)}, {clock(1, 2, 3, 4, 30), 107892, made(2, 2, 3, 4, 30)}, {clock(1, 2, 3, 4, 30), -107892, made(0, 2, 3, 4, 30)}, {clock(1, 2, 3, 4, 30), 17982, made(1, 12, 3, 4, 30)},
		// Over the frames that do not exist, and where they do.
		{clock(0, 0, 59, 29, 30), 1, made(0, 1, 0, 2, 30)}, {clock(0, 1, 0, 2, 30), -1, made(0, 0, 59, 29, 30)}, {clock(0, 0, 59, 28, 30), 3, made(0, 1, 0, 3, 30)}, {clock(23, 58, 59, 29, 30), 1, made(23, 59, 0, 2, 30)}, {clock(0, 9, 59, 29, 30), 1, made(0, 10, 0, 0, 30)}, {clock(0, 10, 0, 0, 30), -1, made(0, 9, 59, 29, 30)}, {clock(0, 10, 0, 0, 30), 1, made(0, 10, 0, 1, 30)}, {clock(0, 59, 59, 29, 30), 1, made(1, 0, 0, 0, 30)}, {clock(0, 59, 59, 29, 30), 1801, made(1, 1, 0, 2, 30)}, {clock(0, 0, 0, 0, 30), 1800, made(0, 1, 0, 2, 30)}, {clock(0, 1, 0, 2, 30), -1800, made(0, 0, 0, 0, 30)}, {clock(0, 0, 59, 23, 24), 1, made(0, 1, 0, 0, 24)}, {clock(0, 1, 0, 0, 24), -1, made(0, 0, 59, 23, 24)},
		// The ends of the day, and beyond.
		{clock(0, 0, 0, 0, 24), -1, none}, {clock(0, 0, 0, 0, 25), -1, none}, {clock(0, 0, 0, 0, 30), -1, none}, {clock(0, 0, 0, 1, 30), -1, made(0, 0, 0, 0, 30)}, {clock(0, 0, 0, 1, 30), -2, none}, {clock(23, 59, 59, 23, 24), 1, none}, {clock(23, 59, 59, 24, 25), 1, none}, {clock(23, 59, 59, 29, 30), 1, none}, {clock(23, 59, 59, 28, 30), 1, made(23, 59, 59, 29, 30)}, {clock(23, 59, 59, 28, 30), 2, none}, {clock(0, 0, 0, 0, 24), 2073599, made(23, 59, 59, 23, 24)}, {clock(0, 0, 0, 0, 24), 2073600, none}, {clock(0, 0, 0, 0, 25), 2159999, made(23, 59, 59, 24, 25)}, {clock(0, 0, 0, 0, 25), 2160000, none}, {clock(0, 0, 0, 0, 30), 2589407, made(23, 59, 59, 29, 30)}, {clock(0, 0, 0, 0, 30), 2589408, none}, {clock(23, 59, 59, 29, 30), -2589407, made(0, 0, 0, 0, 30)}, {clock(23, 59, 59, 29, 30), -2589408, none}, {clock(23, 59, 59, 23, 24), -2073600, none}, {clock(12, 0, 0, 0, 24), 2591999, none},
	}
	for _, c := range cases {
		checkResult(t, fmt.Sprintf("AddFrames(%v, %d)", c.c, c.frames), codedClock(impl.AddFrames(c.c, c.frames)), c.want)
	}
	for _, c := range validCodes() {
		for _, frames := range []int64{8640000, -8640000, 8639999, -8639999} {
			checkResult(t, fmt.Sprintf("AddFrames(%v, %d)", c, frames), codedClock(impl.AddFrames(c, frames)), none)
		}
		for _, frames := range []int64{8640001, -8640001, 1 << 32, -1 << 32, minInt, minInt + 1, maxInt - 1, maxInt} {
			checkResult(t, fmt.Sprintf("AddFrames(%v, %d)", c, frames), codedClock(impl.AddFrames(c, frames)), codedCode{impl.Code{}, impl.ErrRange})
		}
	}
}

func TestP17AddedFramesAreBetween(t *testing.T) {
	random := rand.New(rand.NewSource(171))
	for _, c := range validCodes() {
		frame, _ := impl.FrameOf(c)
		for _, frames := range []int64{0, 1, -1, 1798, 1800, random.Int63n(3601) - 1800, random.Int63n(2000000), -random.Int63n(2000000), -frame, -frame - 1, dayFrames(c.Rate) - 1 - frame, dayFrames(c.Rate) - frame} {
			later, code := impl.AddFrames(c, frames)
			call := fmt.Sprintf("AddFrames(%v, %d)", c, frames)
			if frame+frames < 0 || frame+frames >= dayFrames(c.Rate) {
				checkResult(t, call, codedCode{later, code}, codedCode{impl.Code{}, impl.ErrState})
				continue
			}
			checkResult(t, call, codedCode{later, code}, codedClock(impl.CodeAt(frame+frames, c.Rate)))
			checkResult(t, "FrameOf behind "+call, coded(impl.FrameOf(later)), coded(frame+frames, impl.OK))
			checkResult(t, "FramesBetween behind "+call, coded(impl.FramesBetween(c, later)), coded(frames, impl.OK))
			checkResult(t, "FramesBetween backwards behind "+call, coded(impl.FramesBetween(later, c)), coded(-frames, impl.OK))
		}
	}
}

func TestP17FramesBetween(t *testing.T) {
	cases := []struct {
		a, b impl.Code
		want int64
	}{
		{clock(0, 0, 0, 0, 25), clock(0, 0, 2, 0, 25), 50}, {clock(0, 0, 0, 0, 24), clock(23, 59, 59, 23, 24), 2073599}, {clock(0, 0, 0, 0, 25), clock(23, 59, 59, 24, 25), 2159999}, {clock(0, 0, 0, 0, 30), clock(23, 59, 59, 29, 30), 2589407}, {clock(0, 0, 59, 29, 30), clock(0, 1, 0, 2, 30), 1}, {clock(0, 9, 59, 29, 30), clock(0, 10, 0, 0, 30), 1}, {clock(0, 1, 0, 2, 30), clock(0, 2, 0, 2, 30), 1798}, {clock(0, 0, 0, 2, 30), clock(0, 1, 0, 2, 30), 1798}, {clock(0, 10, 0, 0, 30), clock(0, 20, 0, 0, 30), 17982}, {clock(5, 0, 0, 0, 24), clock(5, 0, 0, 1, 24), 1},
	}
	for _, c := range cases {
		checkResult(t, fmt.Sprintf("FramesBetween(%v, %v)", c.a, c.b), coded(impl.FramesBetween(c.a, c.b)), coded(c.want, impl.OK))
		checkResult(t, fmt.Sprintf("FramesBetween(%v, %v)", c.b, c.a), coded(impl.FramesBetween(c.b, c.a)), coded(-c.want, impl.OK))
	}
	for _, a := range validCodes() {
		checkResult(t, fmt.Sprintf("FramesBetween(%v, %v)", a, a), coded(impl.FramesBetween(a, a)), coded(0, impl.OK))
		for _, b := range validCodes() {
			if a.Rate != b.Rate {
				checkResult(t, fmt.Sprintf("FramesBetween(%v, %v)", a, b), coded(impl.FramesBetween(a, b)), coded(0, impl.ErrState))
			}
		}
	}
}

func TestP17ConvertCodeCases(t *testing.T) {
	none := codedCode{impl.Code{}, impl.ErrState}
	made := func(hours, minutes, seconds, frames, rate int64) codedCode {
		return codedCode{clock(hours, minutes, seconds, frames, rate), impl.OK}
	}
	filmLast, videoLast, dropLast := clock(23, 59, 59, 23, 24), clock(23, 59, 59, 24, 25), clock(23, 59, 59, 29, 30)
	cases := []struct {
		c    impl.Code
		rate int64
		want codedCode
	}{
		{clock(0, 0, 1, 0, 25), 24, made(0, 0, 1, 0, 24)}, {clock(0, 0, 1, 0, 24), 25, made(0, 0, 1, 0, 25)}, {clock(0, 0, 1, 0, 24), 30, made(0, 0, 0, 29, 30)}, {clock(0, 0, 1, 0, 30), 24, made(0, 0, 1, 0, 24)}, {clock(0, 0, 0, 1, 24), 25, made(0, 0, 0, 1, 25)}, {clock(0, 0, 0, 1, 25), 24, made(0, 0, 0, 0, 24)}, {clock(0, 0, 0, 1, 25), 30, made(0, 0, 0, 1, 30)}, {clock(0, 0, 0, 1, 30), 25, made(0, 0, 0, 0, 25)}, {clock(0, 0, 0, 2, 25), 30, made(0, 0, 0, 2, 30)}, {clock(0, 0, 0, 3, 25), 24, made(0, 0, 0, 2, 24)}, {clock(10, 0, 0, 0, 24), 25, made(10, 0, 0, 0, 25)}, {clock(0, 10, 0, 0, 24), 30, made(0, 10, 0, 0, 30)}, {clock(0, 1, 0, 0, 24), 30, made(0, 0, 59, 28, 30)}, {clock(0, 10, 0, 0, 30), 24, made(0, 9, 59, 23, 24)},
		// The first codes.
		{clock(0, 0, 0, 0, 24), 24, made(0, 0, 0, 0, 24)}, {clock(0, 0, 0, 0, 24), 25, made(0, 0, 0, 0, 25)}, {clock(0, 0, 0, 0, 24), 30, made(0, 0, 0, 0, 30)}, {clock(0, 0, 0, 0, 25), 24, made(0, 0, 0, 0, 24)}, {clock(0, 0, 0, 0, 25), 30, made(0, 0, 0, 0, 30)}, {clock(0, 0, 0, 0, 30), 24, made(0, 0, 0, 0, 24)}, {clock(0, 0, 0, 0, 30), 25, made(0, 0, 0, 0, 25)}, {clock(0, 0, 0, 0, 30), 30, made(0, 0, 0, 0, 30)},
		// The last codes: with RateDrop, the codes of a day end before the day does.
		{filmLast, 24, codedCode{filmLast, impl.OK}}, {filmLast, 25, made(23, 59, 59, 23, 25)}, {filmLast, 30, none}, {videoLast, 24, codedCode{filmLast, impl.OK}}, {videoLast, 25, codedCode{videoLast, impl.OK}}, {videoLast, 30, none}, {dropLast, 24, made(23, 59, 59, 21, 24)}, {dropLast, 25, made(23, 59, 59, 22, 25)}, {dropLast, 30, codedCode{dropLast, impl.OK}},
		{clock(23, 59, 59, 21, 24), 30, made(23, 59, 59, 28, 30)}, {clock(23, 59, 59, 22, 24), 30, none}, {clock(23, 59, 59, 22, 25), 30, made(23, 59, 59, 29, 30)}, {clock(23, 59, 59, 23, 25), 30, none},
	}
	for _, c := range cases {
		checkResult(t, fmt.Sprintf("ConvertCode(%v, %d)", c.c, c.rate), codedClock(impl.ConvertCode(c.c, c.rate)), c.want)
	}
}

// plainFrameAt looks for the greatest frame, from one that is too early on.
func plainFrameAt(milli, rate int64) int64 {
	frame := max(milli/1001*rate-rate, 0)
	for plainMilli(frame+1, rate) <= milli {
		frame++
	}
	return frame
}

func TestP17ConvertCodeEverywhere(t *testing.T) {
	for _, c := range validCodes() {
		for _, rate := range allRates() {
			frame, _ := impl.FrameOf(c)
			call := fmt.Sprintf("ConvertCode(%v, %d)", c, rate)
			converted, code := impl.ConvertCode(c, rate)
			want := plainFrameAt(plainMilli(frame, c.Rate), rate)
			if want >= dayFrames(rate) {
				checkResult(t, call, codedCode{converted, code}, codedCode{impl.Code{}, impl.ErrState})
				continue
			}
			checkResult(t, call, codedCode{converted, code}, codedClock(impl.CodeAt(want, rate)))
			if rate == c.Rate {
				checkResult(t, call, converted, c)
			}
		}
	}
}

// Promise 17: clocks that run fast or slow.

func TestP17DriftOfCases(t *testing.T) {
	cases := []struct {
		list          [][]int64
		offset, speed int64
	}{
		{readings(0, 100, 1000, 1101), 100, 1000}, {readings(0, 0, 1, 1), 0, 0}, {readings(0, 5, 86400000, 5), 5, -1000000}, {readings(5, 0, 6, 1), -5, 0}, {readings(0, 100, 1000, 1099), 100, -1000}, {readings(1000, 500, 2000, 1501), -500, 1000}, {readings(0, 0, 86400000, 86400000), 0, 0}, {evenReadings(64), 7, 0},
		// The other clock stands still, runs backwards, or runs far too fast.
		{readings(0, 5, 1000, 5), 5, -1000000}, {readings(7, 86400000, 8, 86400000), 86399993, -1000000}, {readings(0, 1000, 1000, 0), 1000, -2000000}, {readings(0, 86400000, 86400000, 0), 86400000, -2000000}, {readings(0, 86400000, 1, 0), 86400000, -86400001000000}, {readings(0, 0, 1, 86400000), 0, 86399999000000}, {readings(86399999, 0, 86400000, 86400000), -86399999, 86399999000000}, {readings(86399999, 86400000, 86400000, 0), 1, -86400001000000}, {readings(0, 0, 1000, 2000), 0, 1000000},
		// One half exactly, and quotients beside it.
		{readings(0, 0, 2000000, 2000001), 0, 1}, {readings(0, 1, 2000000, 2000000), 1, -1}, {readings(0, 0, 2000001, 2000002), 0, 0}, {readings(0, 1, 2000001, 2000001), 1, 0}, {readings(0, 0, 1999999, 2000000), 0, 1}, {readings(0, 1, 1999999, 1999999), 1, -1}, {readings(0, 0, 2000000, 2000003), 0, 2}, {readings(0, 3, 2000000, 2000000), 3, -2}, {readings(0, 0, 4000000, 4000001), 0, 0}, {readings(0, 0, 4000000, 4000002), 0, 1}, {readings(0, 2, 4000000, 4000000), 2, -1}, {readings(0, 0, 3, 4), 0, 333333}, {readings(0, 0, 3, 5), 0, 666667}, {readings(0, 0, 3, 2), 0, -333333}, {readings(0, 0, 3, 1), 0, -666667}, {readings(0, 0, 86400000, 86399957), 0, 0}, {readings(0, 0, 86400000, 86399956), 0, -1},
		// Only the first and the last list count.
		{readings(0, 100, 500, 86400000, 1000, 1101), 100, 1000}, {readings(0, 100, 500, 0, 501, 7, 1000, 1101), 100, 1000}, {readings(0, 5, 1, 9, 2, 7), 5, 0},
	}
	for _, c := range cases {
		checkResult(t, fmt.Sprintf("DriftOf(%v)", c.list), codedBoth(impl.DriftOf(c.list)), codedBoth(c.offset, c.speed, impl.OK))
	}
	for count := range 100 {
		want := codedBoth(7, 0, impl.OK)
		if count < 2 || count > 64 {
			want = codedBoth(0, 0, impl.ErrRange)
		}
		checkResult(t, fmt.Sprintf("DriftOf %d lists", count), codedBoth(impl.DriftOf(evenReadings(count))), want)
	}
	for _, list := range noReadings() {
		checkResult(t, fmt.Sprintf("DriftOf(%.200s)", fmt.Sprint(list)), codedBoth(impl.DriftOf(list)), codedBoth(0, 0, impl.ErrRange))
	}
}

// bigQuotient returns the nearest quotient of a product of numbers of any size, halves away from 0.
func bigQuotient(a, b, divisor int64) int64 {
	product := new(big.Int).Mul(big.NewInt(a), big.NewInt(b))
	sign := int64(product.Sign())
	double := product.Abs(product).Lsh(product, 1)
	return sign * double.Add(double, big.NewInt(divisor)).Div(double, big.NewInt(2*divisor)).Int64()
}

func TestP17DriftOf(t *testing.T) {
	random := rand.New(rand.NewSource(172))
	for range 2000 {
		most := []int64{100, 1000000, 86400000}[random.Intn(3)]
		list := [][]int64{}
		for range 2 + random.Intn(63) {
			list = append(list, []int64{random.Int63n(most + 1), random.Int63n(most + 1)})
		}
		slices.SortFunc(list, slices.Compare)
		list = slices.CompactFunc(list, func(a, b []int64) bool { return a[0] == b[0] })
		if len(list) < 2 {
			continue
		}
		first, last := list[0], list[len(list)-1]
		offset, later := first[1]-first[0], last[1]-last[0]
		want := codedBoth(offset, bigQuotient(later-offset, 1000000, last[0]-first[0]), impl.OK)
		checkResult(t, fmt.Sprintf("DriftOf(%v)", list), codedBoth(impl.DriftOf(list)), want)
	}
}

func TestP17CorrectTimeCases(t *testing.T) {
	cases := []struct{ milli, offset, speed, want int64 }{
		{1000, 100, 1000, 1101}, {0, 0, 0, 0}, {0, 0, 2000000, 0}, {0, 5, -2000000, 5}, {86400000, 0, 0, 86400000}, {0, 86400000, 5, 86400000}, {0, -86400000, 5, -86400000}, {1000, -2000, 0, -1000}, {1000, 0, -1000000, 0}, {1000, 0, -2000000, -1000}, {1000, 0, 1000000, 2000}, {1000, -5, -1000, 994},
		// The ends of all ranges: the products are greater than MaxValue.
		{86400000, 86400000, 2000000, 345600000}, {86400000, 86400000, -2000000, 0}, {86400000, -86400000, 2000000, 172800000}, {86400000, -86400000, -2000000, -172800000}, {86400000, 0, 1, 86400086}, {86400000, 0, -1, 86399914}, {86400000, 0, 11574, 87399994}, {86400000, 0, 11575, 87400080}, {1000000, 0, 1000000, 2000000}, {1000001, 0, 1000000, 2000002},
		// One half exactly, and quotients beside it.
		{500000, 0, 1, 500001}, {500000, 0, -1, 499999}, {499999, 0, 1, 499999}, {499999, 0, -1, 499999}, {500001, 0, -1, 500000}, {1500000, 0, 1, 1500002}, {1500000, 0, -1, 1499998}, {1499999, 0, 1, 1500000}, {1, 0, 500000, 2}, {1, 0, -500000, 0}, {1, 0, 499999, 1}, {1, 0, -499999, 1}, {1, 0, 1999999, 3}, {1, 0, 1500000, 3}, {1, 0, -1500000, -1}, {1, 0, 1499999, 2}, {3, 0, 500000, 5}, {3, 7, -500000, 8},
	}
	for _, c := range cases {
		checkResult(t, fmt.Sprintf("CorrectTime(%d, %d, %d)", c.milli, c.offset, c.speed), coded(impl.CorrectTime(c.milli, c.offset, c.speed)), coded(c.want, impl.OK))
	}
	refused := coded(0, impl.ErrRange)
	for _, n := range []int64{-1, 86400001, 86400002, 1 << 32, 1 << 62, minInt, minInt + 1, maxInt - 1, maxInt} {
		for _, o := range []int64{0, 5, -5} {
			checkResult(t, fmt.Sprintf("CorrectTime(%d, %d, %d)", n, o, o), coded(impl.CorrectTime(n, o, o)), refused)
			if n != -1 {
				checkResult(t, fmt.Sprintf("CorrectTime(5, %d, %d)", n, o), coded(impl.CorrectTime(5, n, o)), refused)
				checkResult(t, fmt.Sprintf("CorrectTime(5, %d, %d)", o, n), coded(impl.CorrectTime(5, o, n)), refused)
			}
		}
	}
	for _, n := range []int64{-86400001, -86400002, 86400001, -1 << 32} {
		checkResult(t, fmt.Sprintf("CorrectTime(0, %d, 0)", n), coded(impl.CorrectTime(0, n, 0)), refused)
	}
	for _, n := range []int64{-2000001, 2000001, 2000002, -86400000, 86400000} {
		checkResult(t, fmt.Sprintf("CorrectTime(0, 0, %d)", n), coded(impl.CorrectTime(0, 0, n)), refused)
	}
}

func TestP17CorrectTime(t *testing.T) {
	random := rand.New(rand.NewSource(173))
	for range 3000 {
		milli, offset, speed := random.Int63n(86400001), random.Int63n(172800001)-86400000, random.Int63n(4000001)-2000000
		if random.Intn(2) == 0 {
			milli, speed = random.Int63n(20)*500000, random.Int63n(21)-10
		}
		checkResult(t, fmt.Sprintf("CorrectTime(%d, %d, %d)", milli, offset, speed), coded(impl.CorrectTime(milli, offset, speed)), coded(milli+offset+bigQuotient(milli, speed, 1000000), impl.OK))
	}
}

func TestP17MissingFramesCases(t *testing.T) {
	between := func(first, count int64) []int64 {
		list := []int64{}
		for i := range count {
			list = append(list, first+i)
		}
		return list
	}
	cases := []struct{ frames, want []int64 }{
		{nil, nil}, {[]int64{}, nil}, {[]int64{0}, nil}, {[]int64{5}, nil}, {[]int64{8640000}, nil}, {[]int64{5, 6, 7}, nil}, {[]int64{0, 1}, nil}, {[]int64{8639999, 8640000}, nil}, {between(100, 1000), nil},
		{[]int64{5, 6, 9}, []int64{7, 8}}, {[]int64{5, 7}, []int64{6}}, {[]int64{0, 2, 4, 6}, []int64{1, 3, 5}}, {[]int64{0, 3, 4, 8}, []int64{1, 2, 5, 6, 7}}, {[]int64{8639997, 8640000}, []int64{8639998, 8639999}}, {[]int64{3, 5, 6, 7, 9}, []int64{4, 8}},
		// Just MaxList that are missing, in one gap and in several.
		{[]int64{0, 65}, between(1, 64)}, {[]int64{8639935, 8640000}, between(8639936, 64)}, {[]int64{10, 12, 76}, append([]int64{11}, between(13, 63)...)}, {[]int64{10, 74, 76}, append(between(11, 63), 75)}, {[]int64{0, 33, 66}, append(between(1, 32), between(34, 32)...)}, {[]int64{0, 65, 66, 67}, between(1, 64)},
	}
	for _, c := range cases {
		checkResult(t, fmt.Sprintf("MissingFrames(%.200s)", fmt.Sprint(c.frames)), codedMany(impl.MissingFrames(c.frames)), codedMany(c.want, impl.OK))
	}
	checkResult(t, "MissingFrames of all frames", codedMany(impl.MissingFrames(between(0, 8640001))), codedMany[int64](nil, impl.OK))
	odd := []int64{}
	for i := range int64(66) {
		odd = append(odd, 2*i+1)
	}
	checkResult(t, "MissingFrames with 64 gaps", impl.OK, func() int64 { _, code := impl.MissingFrames(odd[:65]); return code }())
	for _, frames := range [][]int64{{0, 66}, {0, 67}, {0, 8640000}, {0, 65, 67}, {0, 2, 67}, {0, 33, 67}, {8639934, 8640000}, odd, {5, 6, 7, 1000000}} {
		checkResult(t, fmt.Sprintf("MissingFrames(%.200s)", fmt.Sprint(frames)), codedMany(impl.MissingFrames(frames)), codedMany[int64](nil, impl.ErrFull))
	}
	for _, frames := range append(noFrames(), []int64{0, 1000, 1000}, []int64{0, 1000, 999}, []int64{0, 1000, 8640001}, []int64{-1, 1000}) {
		// This comes ahead of too many that are missing.
		checkResult(t, fmt.Sprintf("MissingFrames(%v)", frames), codedMany(impl.MissingFrames(frames)), codedMany[int64](nil, impl.ErrRange))
	}
}

func TestP17MissingFrames(t *testing.T) {
	random := rand.New(rand.NewSource(174))
	for range 500 {
		first, has := random.Int63n(8639800), map[int64]bool{}
		frames, missing := []int64{}, []int64{}
		for frame := first; frame < first+random.Int63n(200); frame++ {
			if has[frame] = random.Intn(3) > 0; has[frame] {
				frames = append(frames, frame)
			}
		}
		for i := range frames {
			for frame := frames[max(i-1, 0)]; frame < frames[i]; frame++ {
				if !has[frame] {
					missing = append(missing, frame)
				}
			}
		}
		want := codedMany(missing, impl.OK)
		if len(missing) > 64 {
			want = codedMany[int64](nil, impl.ErrFull)
		}
		checkResult(t, fmt.Sprintf("MissingFrames(%v)", frames), codedMany(impl.MissingFrames(frames)), want)
	}
}

// Promise 17: texts.

var codeTexts = textForm[impl.Code]{"Code", impl.CodeText, impl.ReadCode}

func TestP17CodeIsReadBack(t *testing.T) {
	cases := []struct {
		c    impl.Code
		text string
	}{
		{clock(0, 0, 0, 0, 24), "00:00:00:00@24"}, {clock(0, 0, 0, 0, 25), "00:00:00:00@25"}, {clock(0, 0, 0, 0, 30), "00:00:00:00@30"}, {clock(23, 59, 59, 23, 24), "23:59:59:23@24"}, {clock(23, 59, 59, 24, 25), "23:59:59:24@25"}, {clock(23, 59, 59, 29, 30), "23:59:59:29@30"}, {clock(0, 1, 0, 2, 30), "00:01:00:02@30"}, {clock(0, 10, 0, 0, 30), "00:10:00:00@30"}, {clock(1, 2, 3, 4, 25), "01:02:03:04@25"}, {clock(10, 20, 30, 9, 24), "10:20:30:09@24"}, {clock(9, 8, 7, 10, 30), "09:08:07:10@30"},
	}
	for _, c := range cases {
		codeTexts.checkReadBack(t, c.c, c.text)
	}
	for _, c := range validCodes() {
		codeTexts.checkReadBack(t, c, fmt.Sprintf("%02d:%02d:%02d:%02d@%d", c.Hours, c.Minutes, c.Seconds, c.Frames, c.Rate))
	}
}

func TestP17CodeTextRefuses(t *testing.T) { codeTexts.checkNoTexts(t, invalidCodes()) }

func TestP17ReadCodeRefuses(t *testing.T) {
	texts := []string{
		// Fields beyond their ranges, other rates, and frames that do not exist.
		"24:00:00:00@24", "00:60:00:00@24", "00:00:60:00@24", "00:00:00:24@24", "00:00:00:25@25", "00:00:00:30@30", "99:99:99:99@24", "00:00:00:00@23", "00:00:00:00@26", "00:00:00:00@29", "00:00:00:00@31", "00:00:00:00@60", "00:00:00:00@0", "00:00:00:00@1", "00:00:00:00@-24", "00:01:00:00@30", "00:01:00:01@30", "00:09:00:01@30", "23:59:00:00@30", "23:59:00:01@30", "00:11:00:00@30",
		// One digit, three digits, and none.
		"0:00:00:00@24", "00:0:00:00@24", "00:00:0:00@24", "00:00:00:0@24", "1:2:3:4@25", "000:00:00:00@24", "00:000:00:00@24", "00:00:000:00@24", "00:00:00:000@24", "00:00:00:00@024", "00:00:00:00@0024", "00:00:00:00@2", "00:00:00:00@240", ":00:00:00@24", "00::00:00@24", "00:00::00@24", "00:00:00:@24", "00:00:00:00@", ":::@24", ":::@", "@24", "@",
		// Other separators, missing and further ones.
		"00:00:00;00@24", "00;00;00;00@24", "00:00:00.00@24", "00.00.00.00@24", "00:00:00,00@24", "00-00-00-00@24", "00 00 00 00@24", "00000000@24", "0000:00:00@24", "00:00:0000@24", "00:00:00@24", "00:00@24", "00@24", "00:00:00:00:00@24", "00:00:00:00:@24", ":00:00:00:00@24", "00::00:00:00@24", "00:00:00:00@24:", "00:00:00:00:24", "00:00:00:00 24", "00:00:00:0024", "00:00:00:00", "00:00:00:00@@24", "00:00:00:00@24@", "@00:00:00:00@24", "00:00:00:00@24@24", "00:00:00:00@24:00", "00@00:00:00:24", "00:00:00@00@24", "24@00:00:00:00", "00：00：00：00@24", "00:00:00:00＠24",
		// Signs, blanks, and other digits.
		"+0:00:00:00@24", "-0:00:00:00@24", "-1:00:00:00@24", "+1:02:03:04@25", "01:+2:03:04@25", "01:02:03:-4@25", "01:02:03:+4@25", "00:00:00:00@+24", "+00:00:00:00@24", "-00:00:00:00@24", " 00:00:00:00@24", "00:00:00:00@24 ", "00:00:00:00 @24", "00:00:00:00@ 24", "00: 00:00:00@24", " 0:00:00:00@24", "0 :00:00:00@24", "00:00:00: 0@24", "00:00:00:00@24\n", "\t00:00:00:00@24", "00:00:00:00@24\x00", "0x:00:00:00@24", "a0:00:00:00@24", "00:00:00:00@2a", "00:00:00:00@film", "0_:00:00:00@24", "1_0:00:00:00@24", "0\u0660:00:00:00@24", "٠٠:00:00:00@24", "00:00:00:00@２4", "1e:00:00:00@24",
		"18446744073709551616:00:00:00@24", "00:00:00:00@18446744073709551640", "4294967296:00:00:00@24", "00:00:00:00@4294967320", strings.Repeat("0", 10000) + ":00:00:00@24", strings.Repeat("00:", 10000) + "00@24", "00:00:00:00@" + strings.Repeat("0", 10000) + "24", strings.Repeat(":", 10000), strings.Repeat("@", 10000),
	}
	for _, c := range invalidCodes() {
		texts = append(texts, fmt.Sprintf("%02d:%02d:%02d:%02d@%d", c.Hours, c.Minutes, c.Seconds, c.Frames, c.Rate))
	}
	for _, number := range noNumbers() {
		texts = append(texts, "00:00:00:00@"+number)
		if number != "00" {
			texts = append(texts, number+":00:00:00@24", "00:00:00:"+number+"@24")
		}
	}
	codeTexts.checkNotRead(t, append(texts, edgeTexts()...))
}

func TestP17ReadCodeRefusesChangedBytes(t *testing.T) {
	for _, text := range []string{"01:02:03:04@25", "23:59:59:23@24", "00:01:00:02@30", "12:10:00:00@30"} {
		codeTexts.checkChanged(t, text)
	}
}
