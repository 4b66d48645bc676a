package tests

import (
	"fmt"
	"math/rand"
	"reflect"
	"slices"
	"strings"
	"testing"

	"loop.example/g00955/impl"
)

// codedTour is a result of NearestTour or BestTour.
type codedTour struct {
	order        []int64
	length, code int64
}

// codedOrder returns a tour with its code; an order that is not nil but empty counts as nil.
func codedOrder(order []int64, length, code int64) codedTour {
	if len(order) == 0 {
		order = nil
	}
	return codedTour{order, length, code}
}

func figure(name string, lines ...[]int64) impl.Figure { return impl.Figure{Name: name, Lines: lines} }

func line(i, k int64) []int64 { return []int64{i, k} }

// equatorStars returns stars on the equator; for the whole degrees in these tests, their distances are the differences of their right ascensions.
func equatorStars(rights ...int64) []impl.Star {
	list := []impl.Star{}
	for i, right := range rights {
		list = append(list, starAt(numberedName(i), right, 0))
	}
	return list
}

// scatteredStars returns stars at places that are all equally likely.
func scatteredStars(seed int64, count int) []impl.Star {
	list, random := []impl.Star{}, rand.New(rand.NewSource(seed))
	for i := range count {
		list = append(list, starAt(numberedName(i), random.Int63n(360000), random.Int63n(180001)-90000))
	}
	return list
}

// allLines returns all lines between stars of a number, in their order.
func allLines(count int) [][]int64 {
	lines := [][]int64{}
	for k := range int64(count) {
		for i := k + 1; i < int64(count); i++ {
			lines = append(lines, line(k, i))
		}
	}
	return lines
}

// randomFigure returns a figure for stars of a number, whose lines often share stars.
func randomFigure(random *rand.Rand, count int) impl.Figure {
	lines := allLines(count)
	most := min(len(lines), impl.MaxFigureLines, 1+random.Intn(impl.MaxFigureLines+4))
	for len(lines) > most {
		k := random.Intn(len(lines))
		lines = slices.Delete(lines, k, k+1)
	}
	return figure("random", lines...)
}

// fewFigures are valid for four stars and more.
func fewFigures() []impl.Figure {
	return []impl.Figure{
		{Name: "a"}, {Name: "abcdefghij", Lines: [][]int64{}}, figure("z9", line(0, 1)), figure("a", line(2, 3)), figure("a", line(0, 3)), figure("a", line(0, 1), line(2, 3)),
		figure("a", line(0, 2), line(1, 2)), figure("a", line(0, 1), line(0, 2), line(0, 3)), figure("a", line(0, 3), line(1, 2)), figure("swan", allLines(4)...),
	}
}

// noLines are lists of lines that no figure of four stars has.
func noLines() [][][]int64 {
	lists := [][][]int64{
		{nil}, {{}}, {{0}}, {{3}}, {{0, 1, 2}}, {{0, 1, 1}}, {{0, 1, 2, 3}}, {line(0, 0)}, {line(3, 3)}, {line(1, 0)}, {line(3, 2)}, {line(3, 0)},
		{line(-1, 0)}, {line(-1, 3)}, {line(0, -1)}, {line(-2, -1)}, {line(-1, -1)}, {line(0, 4)}, {line(3, 4)}, {line(4, 5)}, {line(4, 4)}, {line(-1, 4)}, {line(0, 24)},
		{line(minInt, 0)}, {line(0, maxInt)}, {line(minInt, maxInt)}, {line(0, 1<<32)}, {line(-1<<32, 1)},
		{line(0, 1), line(0, 1)}, {line(0, 2), line(0, 1)}, {line(1, 2), line(0, 3)}, {line(2, 3), line(0, 1)}, {line(0, 1), line(0, 2), line(0, 1)}, {line(0, 1), line(2, 3), line(1, 2)},
		{line(0, 3), line(0, 3)}, {line(0, 1), line(2, 3), line(2, 3)}, {line(0, 3), line(0, 2), line(1, 2)},
		{line(0, 1), {1}}, {line(0, 1), {1, 2, 3}}, {{0}, line(0, 1)}, {{0, 1, 2}, line(1, 2)}, {line(0, 1), nil}, {nil, line(0, 1)}, {line(0, 1), line(2, 1)}, {line(0, 1), line(2, 2)},
		{line(0, 1), line(3, 4)}, {line(-1, 1), line(0, 1)}, slices.Repeat([][]int64{line(0, 1)}, 16), slices.Repeat([][]int64{line(0, 1)}, 17), make([][]int64, 1000),
	}
	for i, l := range allLines(4) {
		// Each line once with the greater index first, between others that are as stated.
		lists = append(lists, slices.Concat(allLines(4)[:i], [][]int64{line(l[1], l[0])}, allLines(4)[i+1:]))
	}
	return lists
}

// invalidFigures are not valid for four stars.
func invalidFigures() []impl.Figure {
	list := []impl.Figure{{}}
	for _, name := range invalidNames() {
		list = append(list, figure(name), figure(name, line(0, 1)), figure(name, line(1, 0)))
	}
	for _, lines := range noLines() {
		list = append(list, figure("a", lines...))
	}
	return list
}

// figureCalls are those of all functions of a figure that return a code.
func figureCalls(f impl.Figure, stars []impl.Star, s impl.Site, sidereal int64) []horizonCall {
	arguments := fmt.Sprintf("(%.200q, %v", fmt.Sprint(f), stars)
	return []horizonCall{
		{"FigureLength" + arguments, coded(impl.FigureLength(f, stars))},
		{"FigureStars" + arguments, codedMany(impl.FigureStars(f, stars))},
		{"FigureParts" + arguments, coded(impl.FigureParts(f, stars))},
		{"FigureCentre" + arguments, codedBoth(impl.FigureCentre(f, stars))},
		{"FigureSpan" + arguments, coded(impl.FigureSpan(f, stars))},
		{fmt.Sprintf("VisibleLines%s, %v, %d)", arguments, s, sidereal), codedMany(impl.VisibleLines(f, stars, s, sidereal))},
	}
}

// tourCalls are those of all functions of stars without a figure.
func tourCalls(stars []impl.Star, i, k int64, order []int64, budget int64) []horizonCall {
	return []horizonCall{
		{fmt.Sprintf("LineLength(%v, %d, %d)", stars, i, k), coded(impl.LineLength(stars, i, k))},
		{fmt.Sprintf("TourLength(%v, %.200q)", stars, fmt.Sprint(order)), coded(impl.TourLength(stars, order))},
		{fmt.Sprintf("NearestTour(%v, %d)", stars, i), codedOrder(impl.NearestTour(stars, i))},
		{fmt.Sprintf("BestTour(%v, %d, %d)", stars, i, budget), codedOrder(impl.BestTour(stars, i, budget))},
	}
}

func resultsOf(calls ...horizonCall) []any {
	results := []any{}
	for _, c := range calls {
		results = append(results, c.result)
	}
	return results
}

// Promise 1, for the functions of chapter 8.

func TestP1FiguresReturnEqualResults(t *testing.T) {
	lists := append(validLists(), invalidLists()...)
	for i, f := range append(fewFigures(), invalidFigures()...) {
		for k, stars := range append(validLists(), invalidLists()[i%20:i%20+3]...) {
			n := append(edgeNumbers(), edgeTurns()...)[(3*i+k)%20]
			checkRepeats(t, fmt.Sprintf("functions of the figure %v, the stars %v and the number %d", f, stars, n), func() []any {
				results := resultsOf(append(figureCalls(f, stars, site(50000), n), figureCalls(f, stars, site(n), 0)...)...)
				return append(results, impl.ValidFigure(f, stars), impl.FigureText(f))
			})
		}
	}
	for i, stars := range lists {
		for k, n := range append(edgeNumbers(), 4, 23, 24, impl.MaxBudget, impl.MaxBudget+1) {
			o := edgeNumbers()[(5*i+7*k)%len(edgeNumbers())]
			checkRepeats(t, fmt.Sprintf("functions of the stars %v and the numbers %d, %d", stars, n, o), func() []any {
				return resultsOf(slices.Concat(tourCalls(stars, n, o, []int64{n, o}, 50), tourCalls(stars, 0, n, []int64{n}, n), tourCalls(stars, 1, 0, nil, o))...)
			})
		}
	}
	for _, s := range edgeTexts() {
		checkRepeats(t, fmt.Sprintf("functions of the text %.40q", s), func() []any {
			f, ok := impl.ReadFigure(s)
			return []any{f, ok, impl.ValidFigure(figure(s), nil), impl.FigureText(figure(s, line(0, 1)))}
		})
	}
}

// roomyFigure returns a figure with the lines of f that has unused capacity everywhere, and all memory that it has.
func roomyFigure(f impl.Figure) (impl.Figure, [][]int64) {
	whole := [][]int64{}
	for _, l := range append(slices.Clone(f.Lines), line(5, 5), line(6, 6)) {
		whole = append(whole, slices.Concat(l, []int64{7777, -7777, 7777}))
	}
	lines := [][]int64{}
	for i, l := range f.Lines {
		lines = append(lines, whole[i][:len(l)])
	}
	lines = append(lines, whole[len(f.Lines)], whole[len(f.Lines)+1])
	return impl.Figure{Name: f.Name, Lines: lines[:len(f.Lines)]}, whole
}

func cloneOfLines(lines [][]int64) [][]int64 {
	clone := [][]int64{}
	for _, l := range lines {
		clone = append(clone, slices.Clone(l))
	}
	return clone
}

func TestP1FiguresKeepTheirArguments(t *testing.T) {
	full := randomStars(rand.New(rand.NewSource(60)), impl.MaxStars)
	for _, f := range slices.Concat(fewFigures(), invalidFigures(), []impl.Figure{figure("full", allLines(7)[:16]...)}) {
		for _, stars := range [][]impl.Star{nil, fewStars(), full, {fewStars()[1], fewStars()[0]}} {
			roomy, whole := roomyFigure(f)
			lines := roomy.Lines[:len(f.Lines)+2]
			before, beforeLines := cloneOfLines(whole), cloneOfLines(lines)
			checkListKept(t, fmt.Sprintf("functions of the figure %v", f), stars, []impl.Star{starAt("x", 7, 7), {}}, func(l []impl.Star) {
				impl.ValidFigure(roomy, l)
				impl.FigureText(roomy)
				figureCalls(roomy, l, site(50000), 12345)
			})
			if !reflect.DeepEqual(whole, before) || !reflect.DeepEqual(lines, beforeLines) {
				t.Errorf("functions of the figure %v: changed its lines to %v", f, whole)
			}
		}
	}
}

func TestP1ToursKeepTheirArguments(t *testing.T) {
	for _, stars := range append(validLists(), invalidLists()...) {
		for _, order := range [][]int64{nil, {0}, {1, 0}, {0, 0}, {3, 1, 2, 0}, {2, 1, 0, 3}, {3, 1, 3, 0}, allIndices(24), slices.Repeat([]int64{1}, 24)} {
			slices.Reverse(order)
			checkListKept(t, fmt.Sprintf("functions of the stars %v", stars), stars, []impl.Star{starAt("x", 7, 7), {}}, func(l []impl.Star) {
				checkKept(t, fmt.Sprintf("functions of the order %v", order), order, func(o []int64) { tourCalls(l, 1, 0, o, 100) })
			})
		}
	}
}

// checkNewNumbers is checkNewList for numbers.
func checkNewNumbers(t *testing.T, call string, use func() []int64, kept func() bool) {
	t.Helper()
	checkNewList(t, call, 7777, use, kept)
}

func TestP1FigureListsHaveMemoryOfTheirOwn(t *testing.T) {
	for _, f := range fewFigures() {
		stars := fewStars()
		roomy, whole := roomyFigure(f)
		before := cloneOfLines(whole)
		kept := func() bool { return reflect.DeepEqual(whole, before) && slices.Equal(stars, fewStars()) }
		numbers := func(list []int64, code int64) []int64 {
			checkResult(t, fmt.Sprintf("the code for %v", f), code, impl.OK)
			return list
		}
		checkNewNumbers(t, fmt.Sprintf("FigureStars of %v", f), func() []int64 { return numbers(impl.FigureStars(roomy, stars)) }, kept)
		checkNewNumbers(t, fmt.Sprintf("VisibleLines of %v", f), func() []int64 { return numbers(impl.VisibleLines(roomy, stars, site(0), 300000)) }, kept)
	}
	for _, stars := range [][]impl.Star{fewStars()[:1], fewStars(), equatorStars(5, 5, 5), equatorStars(0, 90000, 180000, 270000, 10)} {
		before := slices.Clone(stars)
		kept := func() bool { return slices.Equal(stars, before) }
		for start := range int64(len(stars)) {
			numbers := func(list []int64, length, code int64) []int64 {
				checkResult(t, fmt.Sprintf("the code for %v", stars), code, impl.OK)
				return list
			}
			checkNewNumbers(t, fmt.Sprintf("NearestTour(%v, %d)", stars, start), func() []int64 { return numbers(impl.NearestTour(stars, start)) }, kept)
			checkNewNumbers(t, fmt.Sprintf("BestTour(%v, %d)", stars, start), func() []int64 { return numbers(impl.BestTour(stars, start, 1000)) }, kept)
		}
	}
}

func TestP1LinesThatAreReadHaveMemoryOfTheirOwn(t *testing.T) {
	for _, f := range append(fewFigures(), figure("full", allLines(7)[:16]...)) {
		for changed := range f.Lines {
			first, _ := impl.ReadFigure(impl.FigureText(f))
			second, _ := impl.ReadFigure(impl.FigureText(f))
			l := first.Lines[changed][:cap(first.Lines[changed])]
			for i := range l {
				l[i] = 7777
			}
			for i, want := range f.Lines {
				if i != changed {
					checkResult(t, fmt.Sprintf("the line %d of %v, of which the line %d was changed", i, f, changed), first.Lines[i], want)
				}
				checkResult(t, fmt.Sprintf("the line %d of %v, read again", i, f), second.Lines[i], want)
			}
			clear(first.Lines[:cap(first.Lines)])
			checkResult(t, fmt.Sprintf("the lines of %v, read again", f), second.Lines, f.Lines)
		}
	}
}

// Promise 9: valid figures.

func TestP9FigureConstants(t *testing.T) {
	checkResult(t, "MaxFigureLines", int64(impl.MaxFigureLines), 16)
}

func TestP9ValidFigure(t *testing.T) {
	full := starsOf(make([]int64, impl.MaxStars)...)
	cases := []struct {
		f     impl.Figure
		stars []impl.Star
		want  bool
	}{
		{figure("a"), nil, true}, {figure("a"), []impl.Star{}, true}, {figure("a"), full, true}, {figure("a", line(0, 1)), nil, false}, {figure("a", line(0, 1)), full[:1], false}, {figure("a", line(0, 1)), full[:2], true},
		{figure("a", line(0, 0)), full[:1], false}, {figure("a", line(22, 23)), full, true}, {figure("a", line(0, 23)), full, true}, {figure("a", line(0, 23)), full[:23], false}, {figure("a", line(23, 24)), full, false}, {figure("a", line(0, 24)), full, false},
		{figure("a", line(-1, 23)), full, false}, {figure("a", line(0, 2), line(0, 10)), full, true}, {figure("a", line(0, 10), line(0, 2)), full, false}, {figure("a", line(2, 3), line(10, 11)), full, true}, {figure("a", line(10, 11), line(2, 3)), full, false},
		{figure("a", line(0, 23), line(1, 2)), full, true}, {figure("a", line(1, 2), line(0, 23)), full, false},
		{figure("a", allLines(7)[:15]...), full, true}, {figure("a", allLines(7)[:16]...), full, true}, {figure("a", allLines(7)[:17]...), full, false}, {figure("a", allLines(24)...), full, false},
		{figure("a", allLines(7)[5:21]...), full, true}, {figure("a", allLines(7)[4:21]...), full, false}, {figure("a", allLines(7)[5:21]...), full[:7], true}, {figure("a", allLines(7)[5:21]...), full[:6], false},
	}
	for _, c := range cases {
		checkResult(t, fmt.Sprintf("ValidFigure(%v) for %d stars", c.f, len(c.stars)), impl.ValidFigure(c.f, c.stars), c.want)
	}
	for _, f := range fewFigures() {
		for _, stars := range [][]impl.Star{fewStars(), full, full[:4]} {
			checkResult(t, fmt.Sprintf("ValidFigure(%v, %v)", f, stars), impl.ValidFigure(f, stars), true)
		}
		checkResult(t, fmt.Sprintf("ValidFigure(%v) for no stars", f), impl.ValidFigure(f, nil), len(f.Lines) == 0)
		for _, stars := range invalidLists() {
			checkResult(t, fmt.Sprintf("ValidFigure(%v, %q)", f, fmt.Sprint(stars)), impl.ValidFigure(f, stars), false)
		}
	}
	for _, f := range invalidFigures() {
		checkResult(t, fmt.Sprintf("ValidFigure(%q)", fmt.Sprint(f)), impl.ValidFigure(f, fewStars()), false)
		checkResult(t, fmt.Sprintf("ValidFigure(%q) for no stars", fmt.Sprint(f)), impl.ValidFigure(f, nil), false)
	}
}

func TestP9InvalidFiguresAreRefusedFirst(t *testing.T) {
	places := []struct {
		s        impl.Site
		sidereal int64
	}{{site(0), 0}, {site(0), -1}, {impl.Site{}, 0}, {impl.Site{}, 360000}}
	for _, place := range places {
		for _, f := range invalidFigures() {
			for _, stars := range [][]impl.Star{fewStars(), nil, {{}}} {
				checkRefused(t, figureCalls(f, stars, place.s, place.sidereal), impl.ErrInvalid)
			}
		}
		for _, stars := range invalidLists() {
			for _, f := range []impl.Figure{figure("a"), figure("a", line(0, 1)), figure("a", line(1, 0)), {}} {
				checkRefused(t, figureCalls(f, stars, place.s, place.sidereal), impl.ErrInvalid)
			}
		}
	}
	for _, stars := range invalidLists() {
		for _, n := range [][3]int64{{0, 0, 1}, {0, 1, 0}, {-1, 0, impl.MaxBudget}, {1000, 1000, 20001}, {minInt, maxInt, minInt}} {
			for _, order := range [][]int64{nil, {0}, {0, 1}, {0, 0}, allIndices(len(stars))} {
				checkRefused(t, tourCalls(stars, n[0], n[1], order, n[2]), impl.ErrInvalid)
			}
		}
	}
}

// Promise 9: distances.

func plainDistance(sines []int64, a, b impl.Star) int64 {
	return plainDistances(sines, []impl.Star{a}, b.Right, b.Declination)[0]
}

// plainTable returns the distance of each star from each one.
func plainTable(sines []int64, stars []impl.Star) [][]int64 {
	table := [][]int64{}
	for _, x := range stars {
		table = append(table, plainDistances(sines, stars, x.Right, x.Declination))
	}
	return table
}

func TestP9LineLengthCases(t *testing.T) {
	stars := append(aroundStars(), starAt("i", 0, 90000), starAt("j", 123456, 90000), starAt("k", 30000, 60000), starAt("l", 210000, -60000), starAt("m", 30000, 60000))
	cases := []struct{ i, k, want int64 }{
		// On both sides of the direction 0, at the poles, at the same place, and at opposite places.
		{1, 2, 2000}, {1, 3, 179000}, {2, 3, 179000}, {0, 4, 180000}, {0, 5, 1000}, {0, 6, 1000}, {5, 6, 2000}, {4, 7, 1000}, {0, 3, 90000}, {3, 4, 90000}, {3, 6, 89000},
		{0, 8, 0}, {0, 9, 0}, {8, 9, 0}, {4, 9, 180000}, {10, 11, 180000}, {11, 12, 180000}, {10, 12, 0}, {0, 10, 30000}, {0, 11, 150000}, {5, 7, 180000},
	}
	for _, c := range cases {
		checkResult(t, fmt.Sprintf("LineLength(%d, %d)", c.i, c.k), coded(impl.LineLength(stars, c.i, c.k)), coded(c.want, impl.OK))
		checkResult(t, fmt.Sprintf("LineLength(%d, %d)", c.k, c.i), coded(impl.LineLength(stars, c.k, c.i)), coded(c.want, impl.OK))
	}
	for _, list := range append(validLists(), stars) {
		for i := range int64(len(list)) {
			checkResult(t, fmt.Sprintf("LineLength(%v, %d, %d)", list, i, i), coded(impl.LineLength(list, i, i)), coded(0, impl.OK))
		}
	}
}

func TestP9LineLengthRefuses(t *testing.T) {
	for _, stars := range validLists() {
		count := int64(len(stars))
		for _, n := range []int64{-1, -2, count, count + 1, 24, 25, minInt, maxInt, 1 << 32, -1 << 32, -count, -count - 1} {
			if n >= 0 && n < count || n == 0 {
				continue
			}
			for _, i := range []int64{0, count - 1, n, -1} {
				checkRefused(t, tourCalls(stars, n, i, nil, 1)[:1], impl.ErrRange)
				checkRefused(t, tourCalls(stars, i, n, nil, 1)[:1], impl.ErrRange)
			}
		}
	}
	checkRefused(t, tourCalls(nil, 0, 0, nil, 1)[:1], impl.ErrRange)
}

func TestP9LineLengthEverywhere(t *testing.T) {
	sines, random := allSines(), rand.New(rand.NewSource(61))
	for range 40 {
		stars := randomStars(random, 1+random.Intn(impl.MaxStars))
		for i, row := range plainTable(sines, stars) {
			for k, want := range row {
				checkResult(t, fmt.Sprintf("LineLength(%v, %d, %d)", stars, i, k), coded(impl.LineLength(stars, int64(i), int64(k))), coded(want, impl.OK))
			}
		}
	}
}

// Promise 9: figures.

func TestP9FigureCases(t *testing.T) {
	stars := equatorStars(0, 10000, 90000, 20000, 20000, 180000)
	cases := []struct {
		lines               [][]int64
		length, parts, span int64
		ends                []int64
	}{
		{nil, 0, 0, 0, nil}, {[][]int64{line(0, 1)}, 10000, 1, 10000, []int64{0, 1}}, {[][]int64{line(0, 5)}, 180000, 1, 180000, []int64{0, 5}}, {[][]int64{line(3, 4)}, 0, 1, 0, []int64{3, 4}},
		// The greatest distance may be one without a line.
		{[][]int64{line(0, 1), line(2, 3)}, 80000, 2, 90000, []int64{0, 1, 2, 3}}, {[][]int64{line(0, 3), line(2, 3)}, 90000, 1, 90000, []int64{0, 2, 3}}, {[][]int64{line(0, 2), line(2, 5)}, 180000, 1, 180000, []int64{0, 2, 5}},
		// The example, a star that many lines share, and a way around.
		{[][]int64{line(0, 1), line(0, 2), line(1, 2)}, 180000, 1, 90000, []int64{0, 1, 2}}, {[][]int64{line(0, 4), line(1, 4), line(2, 4), line(3, 4), line(4, 5)}, 260000, 1, 180000, []int64{0, 1, 2, 3, 4, 5}},
		{[][]int64{line(0, 1), line(0, 2), line(0, 3), line(0, 4), line(0, 5)}, 320000, 1, 180000, []int64{0, 1, 2, 3, 4, 5}}, {[][]int64{line(0, 1), line(0, 5), line(1, 3), line(2, 3), line(2, 5)}, 360000, 1, 180000, []int64{0, 1, 2, 3, 5}},
		// Parts that the last line joins, and parts that stay.
		{[][]int64{line(0, 1), line(1, 5), line(2, 3), line(3, 5)}, 410000, 1, 180000, []int64{0, 1, 2, 3, 5}}, {[][]int64{line(0, 3), line(1, 4), line(2, 5)}, 120000, 3, 180000, []int64{0, 1, 2, 3, 4, 5}},
		{[][]int64{line(0, 3), line(1, 2), line(1, 4), line(2, 3)}, 180000, 1, 90000, []int64{0, 1, 2, 3, 4}}, {[][]int64{line(0, 3), line(0, 4), line(1, 2), line(1, 5), line(2, 5)}, 380000, 2, 180000, []int64{0, 1, 2, 3, 4, 5}},
		{[][]int64{line(0, 5), line(1, 4), line(2, 3)}, 260000, 3, 180000, []int64{0, 1, 2, 3, 4, 5}}, {[][]int64{line(0, 5), line(1, 4), line(2, 3), line(3, 4)}, 260000, 2, 180000, []int64{0, 1, 2, 3, 4, 5}},
		{allLines(6), 1140000, 1, 180000, []int64{0, 1, 2, 3, 4, 5}}, {allLines(6)[10:], 480000, 1, 160000, []int64{2, 3, 4, 5}}, {allLines(6)[14:], 160000, 1, 160000, []int64{4, 5}},
	}
	for _, c := range cases {
		f := figure("a", c.lines...)
		checkResult(t, fmt.Sprintf("FigureLength(%v)", f), coded(impl.FigureLength(f, stars)), coded(c.length, impl.OK))
		checkResult(t, fmt.Sprintf("FigureStars(%v)", f), codedMany(impl.FigureStars(f, stars)), codedMany(c.ends, impl.OK))
		checkResult(t, fmt.Sprintf("FigureParts(%v)", f), coded(impl.FigureParts(f, stars)), coded(c.parts, impl.OK))
		checkResult(t, fmt.Sprintf("FigureSpan(%v)", f), coded(impl.FigureSpan(f, stars)), coded(c.span, impl.OK))
	}
}

func TestP9FiguresOfMostLines(t *testing.T) {
	full := scatteredStars(3, impl.MaxStars)
	pairs, comb, chain, wheel := [][]int64{}, [][]int64{}, [][]int64{}, [][]int64{}
	for i := range int64(12) {
		pairs, comb = append(pairs, line(2*i, 2*i+1)), append(comb, line(i, i+12))
	}
	for i := range int64(16) {
		chain, wheel = append(chain, line(i, i+1)), append(wheel, line(i, 23))
	}
	cases := []struct {
		lines        [][]int64
		count, parts int64
	}{{pairs, 24, 12}, {comb, 24, 12}, {chain, 17, 1}, {wheel, 17, 1}, {allLines(6), 6, 1}, {append(allLines(6), line(6, 7)), 8, 2}, {append(allLines(6), line(22, 23)), 8, 2}}
	for _, c := range cases {
		f := figure("a", c.lines...)
		ends, code := impl.FigureStars(f, full)
		checkResult(t, fmt.Sprintf("the number of FigureStars(%v)", f), coded(int64(len(ends)), code), coded(c.count, impl.OK))
		checkResult(t, fmt.Sprintf("FigureParts(%v)", f), coded(impl.FigureParts(f, full)), coded(c.parts, impl.OK))
		checkFigure(t, allSines(), f, full)
	}
}

func TestP9FigureCentreCases(t *testing.T) {
	places := func(places ...[2]int64) []impl.Star {
		list := []impl.Star{}
		for i, p := range places {
			list = append(list, starAt(numberedName(i), p[0], p[1]))
		}
		return list
	}
	way, fan := [][]int64{line(0, 1), line(1, 2)}, [][]int64{line(0, 1), line(0, 2)}
	cases := []struct {
		stars []impl.Star
		lines [][]int64
		want  codedTwo
	}{
		{nil, nil, codedBoth(0, 0, impl.ErrState)}, {fewStars(), nil, codedBoth(0, 0, impl.ErrState)}, {fewStars()[:1], [][]int64{}, codedBoth(0, 0, impl.ErrState)},
		{places([2]int64{0, 0}, [2]int64{90000, 0}), way[:1], codedBoth(45000, 0, impl.OK)}, {places([2]int64{0, 0}, [2]int64{270000, 0}), way[:1], codedBoth(315000, 0, impl.OK)}, {places([2]int64{77000, 0}, [2]int64{77000, 0}), way[:1], codedBoth(77000, 0, impl.OK)},
		{places([2]int64{0, 90000}, [2]int64{0, 0}), way[:1], codedBoth(0, 45000, impl.OK)}, {places([2]int64{0, -90000}, [2]int64{180000, 0}), way[:1], codedBoth(180000, -45000, impl.OK)}, {places([2]int64{0, 60000}, [2]int64{180000, 60000}), way[:1], codedBoth(0, 90000, impl.OK)},
		// A star that several lines share counts once, and other stars do not count.
		{places([2]int64{0, 0}, [2]int64{90000, 0}, [2]int64{180000, 0}), fan, codedBoth(90000, 0, impl.OK)}, {places([2]int64{0, 0}, [2]int64{90000, 0}, [2]int64{180000, 0}), way, codedBoth(90000, 0, impl.OK)},
		{places([2]int64{0, 0}, [2]int64{90000, 0}, [2]int64{180000, 0}), way[1:], codedBoth(135000, 0, impl.OK)}, {places([2]int64{0, 0}, [2]int64{180000, 0}, [2]int64{5, -90000}), way, codedBoth(0, -90000, impl.OK)},
		// Stars whose components add up to 0.
		{places([2]int64{0, 0}, [2]int64{180000, 0}), way[:1], codedBoth(0, 0, impl.ErrState)}, {places([2]int64{5, 90000}, [2]int64{7, -90000}), way[:1], codedBoth(0, 0, impl.ErrState)}, {places([2]int64{12345, 6789}, [2]int64{192345, -6789}), way[:1], codedBoth(0, 0, impl.ErrState)},
		{places([2]int64{0, 0}, [2]int64{120000, 0}, [2]int64{240000, 0}), way, codedBoth(0, 0, impl.ErrState)}, {places([2]int64{0, 0}, [2]int64{120000, 0}, [2]int64{240000, 0}), way[:1], codedBoth(60000, 0, impl.OK)},
		// Sums of 1, which are rounded to 0.
		{places([2]int64{232803, 31881}, [2]int64{77880, 23117}, [2]int64{325172, -67037}), way, codedBoth(0, 0, impl.ErrState)}, {places([2]int64{143957, 13460}, [2]int64{286986, 35268}, [2]int64{20847, -54111}), fan, codedBoth(0, 0, impl.ErrState)},
		{places([2]int64{45634, -70541}, [2]int64{149723, 26977}, [2]int64{307979, 29290}), way, codedBoth(0, 0, impl.ErrState)}, {places([2]int64{321324, -29818}, [2]int64{142312, -30175}, [2]int64{63590, 89126}), fan, codedBoth(0, 0, impl.ErrState)},
		// Sums of 2, which are rounded to 1, along the axes and for 1, 2, 1 and 2, -2, 0.
		{places([2]int64{295841, -68276}, [2]int64{115766, 8276}, [2]int64{295721, 51724}), way, codedBoth(180000, 0, impl.OK)}, {places([2]int64{24495, -47901}, [2]int64{204588, -12099}, [2]int64{24791, 72099}), fan, codedBoth(90000, 0, impl.OK)},
		{places([2]int64{271771, -12204}, [2]int64{92170, -47795}, [2]int64{90894, 72202}), way, codedBoth(90000, 0, impl.OK)}, {places([2]int64{275246, 68709}, [2]int64{76460, -9978}, [2]int64{246124, -49330}), fan, codedBoth(315000, 0, impl.OK)},
	}
	for _, c := range cases {
		f := figure("a", c.lines...)
		checkResult(t, fmt.Sprintf("FigureCentre(%v, %v)", f, c.stars), codedBoth(impl.FigureCentre(f, c.stars)), c.want)
	}
}

// plainEnds returns all indices that a line has.
func plainEnds(f impl.Figure, count int) []int64 {
	return slices.DeleteFunc(allIndices(count), func(i int64) bool {
		return !slices.ContainsFunc(f.Lines, func(l []int64) bool { return slices.Contains(l, i) })
	})
}

// plainParts gives each star the least index that lines lead to, and counts those that keep their own one.
func plainParts(f impl.Figure, ends []int64, count int) int64 {
	least, parts := allIndices(count), int64(0)
	for range count {
		for _, l := range f.Lines {
			both := min(least[l[0]], least[l[1]])
			least[l[0]], least[l[1]] = both, both
		}
	}
	for _, end := range ends {
		if least[end] == end {
			parts++
		}
	}
	return parts
}

func plainCentre(sines []int64, ends []int64, stars []impl.Star) codedTwo {
	sum, count := impl.Vector{}, int64(len(ends))
	for _, end := range ends {
		v := plainDirection(sines, stars[end].Right, stars[end].Declination)
		sum = vec(sum.X+v.X, sum.Y+v.Y, sum.Z+v.Z)
	}
	if count == 0 {
		return codedBoth(0, 0, impl.ErrState)
	}
	angles := plainAngles(sines, vec(plainQuotient(sum.X, count), plainQuotient(sum.Y, count), plainQuotient(sum.Z, count)))
	return codedBoth(angles.longitude, angles.latitude, angles.code)
}

// checkFigure follows the text of the document.
func checkFigure(t *testing.T, sines []int64, f impl.Figure, stars []impl.Star) {
	t.Helper()
	table, ends, length, span := plainTable(sines, stars), plainEnds(f, len(stars)), int64(0), int64(0)
	for _, l := range f.Lines {
		length += table[l[0]][l[1]]
	}
	for _, i := range ends {
		for _, k := range ends {
			span = max(span, table[i][k])
		}
	}
	call := fmt.Sprintf("(%v, %v)", f, stars)
	checkResult(t, "ValidFigure"+call, impl.ValidFigure(f, stars), true)
	checkResult(t, "FigureLength"+call, coded(impl.FigureLength(f, stars)), coded(length, impl.OK))
	checkResult(t, "FigureStars"+call, codedMany(impl.FigureStars(f, stars)), codedMany(ends, impl.OK))
	checkResult(t, "FigureParts"+call, coded(impl.FigureParts(f, stars)), coded(plainParts(f, ends, len(stars)), impl.OK))
	checkResult(t, "FigureSpan"+call, coded(impl.FigureSpan(f, stars)), coded(span, impl.OK))
	checkResult(t, "FigureCentre"+call, codedBoth(impl.FigureCentre(f, stars)), plainCentre(sines, ends, stars))
}

func TestP9FiguresEverywhere(t *testing.T) {
	sines, random := allSines(), rand.New(rand.NewSource(62))
	for range 400 {
		stars := randomStars(random, random.Intn(impl.MaxStars+1))
		checkFigure(t, sines, randomFigure(random, len(stars)), stars)
	}
}

// Promise 9: lines that can be seen.

func TestP9VisibleLinesCases(t *testing.T) {
	// Seen from the equator at the sidereal angle 0: in the zenith, just on the horizon on all sides, just below it, far below it, and in the nadir.
	sky := []impl.Star{
		starAt("a", 0, 0), starAt("b", 90000, 0), starAt("c", 270000, 0), starAt("d", 77, 90000), starAt("e", 88, -90000),
		starAt("f", 90001, 0), starAt("g", 269999, 0), starAt("h", 120000, 30000), starAt("i", 180000, 0), starAt("j", 10000, 20000),
	}
	horizon := figure("a", line(0, 1), line(0, 2), line(0, 3), line(0, 4), line(0, 9), line(1, 2), line(1, 3), line(3, 4))
	below := figure("a", line(0, 5), line(0, 6), line(0, 7), line(0, 8), line(1, 2), line(3, 5), line(5, 6), line(7, 8), line(8, 9))
	cases := []struct {
		f                  impl.Figure
		latitude, sidereal int64
		want               []int64
	}{
		{horizon, 0, 0, []int64{0, 1, 2, 3, 4, 5, 6, 7}}, {below, 0, 0, []int64{4}}, {figure("a"), 0, 0, nil}, {figure("a"), 90000, 359999, nil},
		// A bit earlier, b has not yet risen; a bit later, c has set.
		{horizon, 0, 359999, []int64{1, 2, 3, 4, 7}}, {horizon, 0, 1, []int64{0, 2, 3, 4, 6, 7}}, {below, 0, 359999, []int64{1}}, {below, 0, 1, []int64{0, 5}}, {below, 0, 180000, []int64{4, 5, 6, 7}}, {horizon, 0, 180000, []int64{5, 6, 7}}, {below, 0, 90000, []int64{0, 2, 3, 5, 7, 8}},
		// From the poles, the equator is the horizon, and the declination decides.
		{horizon, 90000, 0, []int64{0, 1, 2, 4, 5, 6}}, {horizon, 90000, 359999, []int64{0, 1, 2, 4, 5, 6}}, {horizon, -90000, 0, []int64{0, 1, 3, 5}}, {horizon, -90000, 359999, []int64{0, 1, 3, 5}}, {below, 90000, 12345, []int64{0, 1, 2, 3, 4, 5, 6, 7, 8}}, {below, -90000, 12345, []int64{0, 1, 3, 4, 6}},
	}
	for _, c := range cases {
		for _, longitude := range []int64{0, -180000, 123456} {
			s := impl.Site{Name: "a", Longitude: longitude, Latitude: c.latitude}
			call := fmt.Sprintf("VisibleLines(%v, sky, %v, %d)", c.f, s, c.sidereal)
			checkResult(t, call, codedMany(impl.VisibleLines(c.f, sky, s, c.sidereal)), codedMany(c.want, impl.OK))
		}
	}
}

func TestP9VisibleLinesRefuses(t *testing.T) {
	for _, f := range append(fewFigures(), figure("a")) {
		for _, stars := range [][]impl.Star{fewStars(), starsOf(make([]int64, impl.MaxStars)...)} {
			for _, n := range noTurns() {
				checkRefused(t, figureCalls(f, stars, site(0), n)[5:], impl.ErrRange)
				checkRefused(t, figureCalls(f, stars, site(-90000), n)[5:], impl.ErrRange)
			}
			for _, s := range invalidSites() {
				for _, n := range []int64{0, 359999, -1, 360000, minInt, maxInt} {
					checkRefused(t, figureCalls(f, stars, s, n)[5:], impl.ErrInvalid)
				}
			}
		}
	}
	checkRefused(t, figureCalls(figure("a"), nil, site(0), 360000)[5:], impl.ErrRange)
	checkRefused(t, figureCalls(figure("a"), nil, site(90001), 0)[5:], impl.ErrInvalid)
}

func TestP9VisibleLinesEverywhere(t *testing.T) {
	sines, random := allSines(), rand.New(rand.NewSource(63))
	for range 1000 {
		s, sidereal, stars := randomSite(random), randomRight(random), randomStars(random, random.Intn(impl.MaxStars+1))
		f, want := randomFigure(random, len(stars)), []int64{}
		for i, l := range f.Lines {
			lowest := int64(90000)
			for _, end := range l {
				x := stars[end]
				lowest = min(lowest, plainAngles(sines, plainHorizontal(sines, s.Latitude, sidereal, x.Right, x.Declination)).latitude)
			}
			if lowest >= 0 {
				want = append(want, int64(i))
			}
		}
		call := fmt.Sprintf("VisibleLines(%v, %v, %v, %d)", f, stars, s, sidereal)
		checkResult(t, call, codedMany(impl.VisibleLines(f, stars, s, sidereal)), codedMany(want, impl.OK))
	}
}

// Promise 9: orders.

func TestP9TourLengthCases(t *testing.T) {
	stars := equatorStars(0, 10000, 90000, 20000, 20000, 180000)
	cases := []struct {
		stars []impl.Star
		order []int64
		want  int64
	}{
		{nil, nil, 0}, {[]impl.Star{}, []int64{}, 0}, {stars[:1], []int64{0}, 0}, {stars[:2], []int64{0, 1}, 10000}, {stars[:2], []int64{1, 0}, 10000}, {stars[:3], []int64{0, 1, 2}, 90000}, {stars[:3], []int64{0, 2, 1}, 170000}, {stars[:3], []int64{1, 0, 2}, 100000},
		{stars[:4], []int64{0, 1, 3, 2}, 90000}, {stars, []int64{0, 1, 2, 3, 4, 5}, 320000}, {stars, []int64{0, 1, 3, 4, 2, 5}, 180000}, {stars, []int64{5, 2, 4, 3, 1, 0}, 180000}, {stars, []int64{4, 3, 5, 0, 2, 1}, 510000},
		{equatorStars(7, 7, 7), []int64{2, 0, 1}, 0}, {equatorStars(0, 180000), []int64{1, 0}, 180000}, {equatorStars(0, 180000, 0, 180000), []int64{0, 1, 2, 3}, 540000},
	}
	for _, c := range cases {
		checkResult(t, fmt.Sprintf("TourLength(%v, %v)", c.stars, c.order), coded(impl.TourLength(c.stars, c.order)), coded(c.want, impl.OK))
	}
}

func TestP9TourLengthRefuses(t *testing.T) {
	cases := []struct {
		count  int
		orders [][]int64
	}{
		{0, [][]int64{{0}, {-1}, {0, 1}}}, {1, [][]int64{nil, {}, {1}, {-1}, {0, 0}, {0, 1}, {1, 0}, {minInt}, {maxInt}}},
		{2, [][]int64{nil, {0}, {1}, {0, 0}, {1, 1}, {0, 2}, {2, 1}, {-1, 0}, {0, -1}, {0, 1, 2}, {0, 1, 0}, {1, 2}, {minInt, maxInt}, {1 << 32, 1}, {0, 1 + 1<<32}}},
		{4, [][]int64{nil, {0, 1, 2}, {1, 2, 3}, {0, 1, 2, 3, 4}, {0, 1, 2, 3, 0}, {0, 1, 2, 2}, {0, 0, 1, 2}, {3, 2, 1, 3}, {1, 2, 3, 4}, {4, 1, 2, 3}, {0, 1, 2, 4}, {0, 1, 2, -1}, {-1, 0, 1, 2}, {0, 1, -1, 4}, {0, 3, 0, 3}, {1, 1, 2, 2}, {0, 1, 1, 4}}},
		{24, [][]int64{allIndices(23), allIndices(25), allIndices(25)[1:], slices.Repeat([]int64{5}, 24), slices.Repeat([]int64{0}, 1000), append(allIndices(23), 0), append(allIndices(23), 24), append(allIndices(23), -1), append(allIndices(24), 23)}},
	}
	for _, c := range cases {
		for _, order := range c.orders {
			checkRefused(t, tourCalls(scatteredStars(1, c.count), 0, 0, order, 1)[1:2], impl.ErrRange)
		}
	}
}

func TestP9TourLengthEverywhere(t *testing.T) {
	sines, random := allSines(), rand.New(rand.NewSource(64))
	for range 50 {
		stars := randomStars(random, random.Intn(impl.MaxStars+1))
		table := plainTable(sines, stars)
		for range 10 {
			order, want := []int64{}, int64(0)
			for _, i := range random.Perm(len(stars)) {
				if len(order) > 0 {
					want += table[order[len(order)-1]][i]
				}
				order = append(order, int64(i))
			}
			checkResult(t, fmt.Sprintf("TourLength(%v, %v)", stars, order), coded(impl.TourLength(stars, order)), coded(want, impl.OK))
		}
	}
}

// Promise 9: tours.

// tourCase is a start with both tours, and the number of nodes of the search.
type tourCase struct {
	stars         []impl.Star
	start         int64
	nearest, best codedTour
	nodes         int64
}

func tourCases() []tourCase {
	found := func(length int64, order ...int64) codedTour { return codedOrder(order, length, impl.OK) }
	short, square, triangle := equatorStars(0, 20000, 90000), equatorStars(0, 90000, 180000, 270000), equatorStars(0, 120000, 240000)
	trap, same, more := equatorStars(0, 20000, 335000, 90000), equatorStars(5, 5, 5), equatorStars(slices.Repeat([]int64{5}, 24)...)
	return []tourCase{
		{fewStars()[:1], 0, found(0, 0), found(0, 0), 0}, {short[:2], 0, found(20000, 0, 1), found(20000, 0, 1), 1}, {short[:2], 1, found(20000, 1, 0), found(20000, 1, 0), 1}, {equatorStars(0, 180000), 1, found(180000, 1, 0), found(180000, 1, 0), 1},
		{short, 0, found(90000, 0, 1, 2), found(90000, 0, 1, 2), 2}, {short, 1, found(110000, 1, 0, 2), found(110000, 1, 0, 2), 3}, {short, 2, found(90000, 2, 1, 0), found(90000, 2, 1, 0), 4},
		// Stars at the same place: once there is a tour of the length 0, nothing more is a node.
		{same, 0, found(0, 0, 1, 2), found(0, 0, 1, 2), 2}, {same, 1, found(0, 1, 0, 2), found(0, 1, 0, 2), 2}, {same, 2, found(0, 2, 0, 1), found(0, 2, 0, 1), 2}, {more, 0, found(0, allIndices(24)...), found(0, allIndices(24)...), 23},
		{more, 23, found(0, append([]int64{23}, allIndices(23)...)...), found(0, append([]int64{23}, allIndices(23)...)...), 23}, {equatorStars(0, 10000, 10000), 0, found(10000, 0, 1, 2), found(10000, 0, 1, 2), 2}, {equatorStars(0, 10000, 10000), 2, found(10000, 2, 1, 0), found(10000, 2, 1, 0), 4},
		// Several stars at the same distance, and several orders of the least length.
		{equatorStars(0, 10000, 20000), 1, found(30000, 1, 0, 2), found(30000, 1, 0, 2), 3}, {triangle, 0, found(240000, 0, 1, 2), found(240000, 0, 1, 2), 3}, {triangle, 2, found(240000, 2, 0, 1), found(240000, 2, 0, 1), 3},
		{square, 0, found(270000, 0, 1, 2, 3), found(270000, 0, 1, 2, 3), 6}, {square, 2, found(270000, 2, 1, 0, 3), found(270000, 2, 1, 0, 3), 9}, {equatorStars(0, 90000, 180000, 270000), 3, found(270000, 3, 0, 1, 2), found(270000, 3, 0, 1, 2), 6},
		// The nearest star leads to a way that is too long.
		{trap, 0, found(180000, 0, 1, 2, 3), found(140000, 0, 2, 1, 3), 8}, {equatorStars(0, 10000, 90000, 20000), 1, found(100000, 1, 0, 3, 2), found(100000, 1, 0, 3, 2), 9},
	}
}

func TestP9TourCases(t *testing.T) {
	for _, c := range tourCases() {
		call := fmt.Sprintf("(%v, %d)", c.stars, c.start)
		checkResult(t, "NearestTour"+call, codedOrder(impl.NearestTour(c.stars, c.start)), c.nearest)
		checkBest(t, c.stars, c.start, c.best, c.nodes)
	}
}

// checkBest checks the best tour for budgets that are enough, and for those that are not.
func checkBest(t *testing.T, stars []impl.Star, start int64, want codedTour, nodes int64) {
	t.Helper()
	for _, budget := range []int64{nodes, nodes + 1, nodes + 100, impl.MaxBudget - 1, impl.MaxBudget, 1, nodes / 2, nodes - 1} {
		call, expected := fmt.Sprintf("BestTour(%v, %d, %d)", stars, start, budget), want
		switch {
		case budget < 1 || budget > impl.MaxBudget:
			expected = codedOrder(nil, 0, impl.ErrRange)
		case budget < nodes:
			expected = codedOrder(nil, 0, impl.ErrFull)
		}
		checkResult(t, call, codedOrder(impl.BestTour(stars, start, budget)), expected)
	}
}

func TestP9ToursRefuse(t *testing.T) {
	for _, stars := range validLists() {
		count := int64(len(stars))
		for _, start := range []int64{-1, -2, count, count + 1, 1000, 1 << 32, -1 << 32, minInt, maxInt} {
			for _, budget := range []int64{1, impl.MaxBudget, 0, impl.MaxBudget + 1} {
				checkRefused(t, tourCalls(stars, start, 0, nil, budget)[2:], impl.ErrRange)
			}
		}
		for start := range count {
			for _, budget := range []int64{0, -1, impl.MaxBudget + 1, impl.MaxBudget * 2, -impl.MaxBudget, 1<<32 + 1, minInt, minInt + 1, maxInt - 1, maxInt} {
				checkRefused(t, tourCalls(stars, start, 0, nil, budget)[3:], impl.ErrRange)
			}
		}
	}
	// Without stars, there is no start; one star needs no node, but a budget.
	checkRefused(t, tourCalls(nil, 0, 0, nil, 1)[2:], impl.ErrRange)
	checkRefused(t, tourCalls(fewStars()[:1], 0, 0, nil, 0)[3:], impl.ErrRange)
	checkRefused(t, tourCalls(fewStars()[:1], 0, 0, nil, impl.MaxBudget+1)[3:], impl.ErrRange)
}

// plainNearestTour looks for the nearest star from the last one to the first one.
func plainNearestTour(table [][]int64, start int64) codedTour {
	order, length := []int64{start}, int64(0)
	for len(order) < len(table) {
		ways, nearest := table[order[len(order)-1]], int64(-1)
		for i := int64(len(table)) - 1; i >= 0; i-- {
			if !slices.Contains(order, i) && (nearest < 0 || ways[i] <= ways[nearest]) {
				nearest = i
			}
		}
		order, length = append(order, nearest), length+ways[nearest]
	}
	return codedOrder(order, length, impl.OK)
}

// plainBestTour goes through all orders without leaving one out; it also counts all beginnings that are shorter than each order before them, which are the nodes.
func plainBestTour(table [][]int64, start int64) (codedTour, int64) {
	best, nodes := codedTour{}, int64(0)
	isShorter := func(length int64) bool { return best.order == nil || length < best.length }
	var extend func([]int64, int64)
	extend = func(order []int64, length int64) {
		if len(order) == len(table) && isShorter(length) {
			best = codedTour{slices.Clone(order), length, impl.OK}
		}
		for next, way := range table[order[len(order)-1]] {
			if slices.Contains(order, int64(next)) {
				continue
			}
			if isShorter(length + way) {
				nodes++
			}
			extend(append(order, int64(next)), length+way)
		}
	}
	extend([]int64{start}, 0)
	return best, nodes
}

func TestP9TheBestTourIsTheBestOne(t *testing.T) {
	sines, random := allSines(), rand.New(rand.NewSource(65))
	for i := range 250 {
		stars := randomStars(random, 1+random.Intn(6))
		switch {
		case i%50 == 0:
			stars = randomStars(random, 7+i/50%2)
		case i%3 == 0:
			// Whole degrees of a part of the equator, where many orders have the same length.
			for k := range stars {
				stars[k].Right, stars[k].Declination = 1000*random.Int63n(6), 0
			}
		}
		start, table := random.Int63n(int64(len(stars))), plainTable(sines, stars)
		want, nodes := plainBestTour(table, start)
		checkBest(t, stars, start, want, nodes)
		nearest := plainNearestTour(table, start)
		checkResult(t, fmt.Sprintf("NearestTour(%v, %d)", stars, start), codedOrder(impl.NearestTour(stars, start)), nearest)
		if want.length > nearest.length {
			t.Errorf("BestTour(%v, %d): %d is longer than %d", stars, start, want.length, nearest.length)
		}
		checkResult(t, fmt.Sprintf("TourLength(%v, %v)", stars, want.order), coded(impl.TourLength(stars, want.order)), coded(want.length, impl.OK))
	}
}

func TestP9TheBestTourIsNotLongerThanOthers(t *testing.T) {
	random, found := rand.New(rand.NewSource(66)), 0
	for range 300 {
		stars := randomStars(random, 1+random.Intn(12))
		start := random.Int63n(int64(len(stars)))
		best, length, code := impl.BestTour(stars, start, impl.MaxBudget)
		if code != impl.OK {
			checkResult(t, fmt.Sprintf("BestTour(%v, %d)", stars, start), codedOrder(best, length, code), codedOrder(nil, 0, impl.ErrFull))
			continue
		}
		found++
		checkResult(t, fmt.Sprintf("TourLength(%v, %v)", stars, best), coded(impl.TourLength(stars, best)), coded(length, impl.OK))
		checkResult(t, "the start of the best tour", best[0], start)
		if nearest, way, _ := impl.NearestTour(stars, start); length > way {
			t.Errorf("BestTour(%v, %d): %v has the length %d, %v has %d", stars, start, best, length, nearest, way)
		}
		for range 20 {
			other := []int64{start}
			for _, i := range random.Perm(len(stars)) {
				if int64(i) != start {
					other = append(other, int64(i))
				}
			}
			if way, _ := impl.TourLength(stars, other); length > way || length == way && slices.Compare(best, other) > 0 {
				t.Errorf("BestTour(%v, %d): %v has the length %d, %v has %d", stars, start, best, length, other, way)
			}
		}
	}
	if found < 100 {
		t.Errorf("only %d of 300 best tours are found", found)
	}
}

func TestP9BestTourWithTheGreatestBudget(t *testing.T) {
	// Stars that need one node less than MaxBudget, MaxBudget nodes, and one more.
	cases := []struct{ seed, start, nodes int64 }{{2383, 7, impl.MaxBudget - 1}, {6, 8, impl.MaxBudget}, {89, 2, impl.MaxBudget + 1}}
	for _, c := range cases {
		stars := scatteredStars(c.seed, 10)
		want, nodes := plainBestTour(plainTable(allSines(), stars), c.start)
		checkResult(t, fmt.Sprintf("the nodes of the seed %d", c.seed), nodes, c.nodes)
		checkBest(t, stars, c.start, want, c.nodes)
	}
	full := scatteredStars(7, impl.MaxStars)
	table := plainTable(allSines(), full)
	for start := range int64(impl.MaxStars) {
		for _, budget := range []int64{1, 23, 24, 1000, impl.MaxBudget} {
			checkRefused(t, tourCalls(full, start, 0, nil, budget)[3:], impl.ErrFull)
		}
		checkResult(t, fmt.Sprintf("NearestTour(full, %d)", start), codedOrder(impl.NearestTour(full, start)), plainNearestTour(table, start))
	}
}

// Promise 9: texts.

// figureText is a figure with its text.
type figureText struct {
	f    impl.Figure
	text string
}

func figureTexts() []figureText {
	cases := []figureText{
		{figure("swan", line(0, 1), line(2, 3)), "swan 0-1 2-3"}, {figure("a"), "a"}, {impl.Figure{Name: "abcdefghij", Lines: [][]int64{}}, "abcdefghij"}, {figure("z9", line(0, 1)), "z9 0-1"}, {figure("a", line(0, 23)), "a 0-23"}, {figure("a", line(22, 23)), "a 22-23"},
		{figure("a", line(0, 2), line(0, 10)), "a 0-2 0-10"}, {figure("a", line(2, 3), line(10, 11)), "a 2-3 10-11"}, {figure("a", line(0, 23), line(1, 2)), "a 0-23 1-2"}, {figure("a", allLines(4)...), "a 0-1 0-2 0-3 1-2 1-3 2-3"},
		{figure("a", allLines(7)[:16]...), "a 0-1 0-2 0-3 0-4 0-5 0-6 1-2 1-3 1-4 1-5 1-6 2-3 2-4 2-5 2-6 3-4"}, {figure("a", allLines(24)[260:]...), "a 17-23 18-19 18-20 18-21 18-22 18-23 19-20 19-21 19-22 19-23 20-21 20-22 20-23 21-22 21-23 22-23"},
	}
	random := rand.New(rand.NewSource(67))
	for range 300 {
		f := randomFigure(random, random.Intn(impl.MaxStars+1))
		text := f.Name
		for _, l := range f.Lines {
			text += fmt.Sprintf(" %d-%d", l[0], l[1])
		}
		cases = append(cases, figureText{f, text})
	}
	return cases
}

func TestP9FigureIsReadBack(t *testing.T) {
	for _, c := range figureTexts() {
		checkResult(t, fmt.Sprintf("FigureText(%v)", c.f), impl.FigureText(c.f), c.text)
		got, ok := impl.ReadFigure(c.text)
		checkResult(t, fmt.Sprintf("ReadFigure(%q)", c.text), ok, true)
		checkResult(t, fmt.Sprintf("the name of ReadFigure(%q)", c.text), got.Name, c.f.Name)
		checkResult(t, fmt.Sprintf("the lines of ReadFigure(%q)", c.text), got.Lines, c.f.Lines)
	}
}

func TestP9FigureTextRefuses(t *testing.T) {
	lists := [][][]int64{
		{line(0, 24)}, {line(23, 24)}, {line(24, 25)}, {line(-1, 23)}, {line(0, maxInt)}, {line(minInt, 0)}, allLines(7)[:17], allLines(24)[259:], allLines(24),
		{line(0, 10), line(0, 2)}, {line(10, 11), line(2, 3)}, append(allLines(7)[:16], line(0, 1)), append(allLines(7)[:15], line(0, 1)),
	}
	for _, lines := range append(lists, noLines()...) {
		isOfMore := impl.ValidFigure(figure("a", lines...), starsOf(make([]int64, impl.MaxStars)...))
		if got := impl.FigureText(figure("a", lines...)); (got != "") != isOfMore {
			t.Errorf("FigureText of %v: got %q", lines, got)
		}
		checkResult(t, fmt.Sprintf("FigureText of %v without a name", lines), impl.FigureText(figure("", lines...)), "")
	}
	for _, lines := range lists {
		checkResult(t, fmt.Sprintf("FigureText of %v", lines), impl.FigureText(figure("a", lines...)), "")
	}
	for _, name := range invalidNames() {
		for _, lines := range [][][]int64{nil, {line(0, 1)}, allLines(6)} {
			checkResult(t, fmt.Sprintf("FigureText of %q, %v", name, lines), impl.FigureText(figure(name, lines...)), "")
		}
	}
}

func checkNoFigure(t *testing.T, s string) {
	t.Helper()
	if got, ok := impl.ReadFigure(s); got.Name != "" || len(got.Lines) > 0 || ok {
		t.Errorf("ReadFigure(%.60q): got %v, %t, want the zero Figure and false", s, got, ok)
	}
}

func TestP9ReadFigureRefuses(t *testing.T) {
	texts := []string{
		"a 0-24", "a 23-24", "a 24-25", "a -1-0", "a -1-23", "a 0--1", "a 1-0", "a 23-22", "a 0-0", "a 23-23", "a 0-2 0-1", "a 1-2 0-3", "a 0-1 0-1", "a 0-1 2-3 1-2", "a 0-10 0-2", "a 10-11 2-3",
		"a 0-1 0-2 0-3 0-4 0-5 0-6 1-2 1-3 1-4 1-5 1-6 2-3 2-4 2-5 2-6 3-4 3-5", "a" + strings.Repeat(" 0-1", 17), "a" + strings.Repeat(" 0-1", 16), "a" + strings.Repeat(" 0-1", 10000),
		"a ", " a", "  ", "a  0-1", "a 0-1 ", " a 0-1", "a 0-1  0-2", "a0-1", "a 0 1", "a 0 -1", "a 0- 1", "a 0 - 1", "a\t0-1", "a 0-1\n", "a\n0-1", "a\u00a00-1", "a,0-1", "a 0-1,0-2", "a 0,1", "a 0:1", "a 0_1", "a 0\u20131", "a 01",
		"a 0", "a 0-", "a -1", "a -", "a --", "a 0-1-2", "a 0-1-", "a -0-1", "a 0--", "a 0-1 2", "a 0-1 2-", "a 0-1 -3", "a 0-1 b", "a b 0-1", "a a", "0-1", "0-1 a", "0-1 0-2", "- 0-1", "a - 0-1", "a 0-1 -",
		"a " + strings.Repeat("0", 10000) + "-1", "a 0-" + strings.Repeat("1", 10000), "a" + strings.Repeat("-1", 10000), "a " + strings.Repeat("-", 10000), strings.Repeat("a", 10000) + " 0-1",
	}
	for _, word := range []string{"+1", "-0", "-1", "00", "01", "1.0", "1e0", "0x1", "1_0", "", "b", "-", "--1", "24", "9223372036854775808", "18446744073709551617", "4294967297"} {
		texts = append(texts, "a "+word+"-2", "a 0-"+word, "a "+word+"-"+word, "a 0-1 "+word+"-2", "a 0-1 1-"+word)
	}
	for _, name := range invalidNames() {
		texts = append(texts, name, name+" 0-1")
	}
	for _, s := range slices.Concat(texts, slices.DeleteFunc(edgeTexts(), impl.IsName)) {
		checkNoFigure(t, s)
	}
}

func TestP9ReadFigureRefusesChangedBytes(t *testing.T) {
	whole := "swan 0-1 2-13 10-23"
	for i := range len(whole) {
		for b := range 256 {
			s := whole[:i] + string([]byte{byte(b)}) + whole[i+1:]
			got, ok := impl.ReadFigure(s)
			if ok && impl.FigureText(got) != s || !ok && (got.Name != "" || len(got.Lines) > 0) {
				t.Errorf("ReadFigure(%q): got %v, %t", s, got, ok)
			}
		}
	}
	for _, end := range []int{0, 5, 6, 7, 9, 10, 11, 14, 15, 16, 17} {
		checkNoFigure(t, whole[:end])
	}
}
