package tests

import (
	"fmt"
	"math/rand"
	"reflect"
	"runtime"
	"slices"
	"strings"
	"testing"

	"loop.example/g00955/impl"
)

// curve returns the knots with pairs of In and Out.
func curve(levels ...int64) []impl.Knot {
	knots := []impl.Knot{}
	for i := 0; i+1 < len(levels); i += 2 {
		knots = append(knots, impl.Knot{In: levels[i], Out: levels[i+1]})
	}
	return knots
}

// hundreds returns the curve with these Outs at 0, 100, 200 and so on.
func hundreds(outs ...int64) []impl.Knot {
	knots := []impl.Knot{}
	for i, out := range outs {
		knots = append(knots, impl.Knot{In: int64(100 * i), Out: out})
	}
	return knots
}

// evenCurve returns a curve with a number of knots that leads from each level to itself.
func evenCurve(count int64) []impl.Knot {
	knots := []impl.Knot{}
	for i := range count {
		x := 1000 * i / (count - 1)
		knots = append(knots, impl.Knot{In: x, Out: x})
	}
	return knots
}

// randomCurve returns a curve whose levels are anywhere, or close together, or at the ends of the range.
func randomCurve(random *rand.Rand) []impl.Knot {
	ins, outs := []int64{0, 1000}, []int64{}
	for range random.Intn(15) {
		ins = append(ins, []int64{random.Int63n(1001), random.Int63n(20), 980 + random.Int63n(20)}[random.Intn(3)])
	}
	slices.Sort(ins)
	ins = slices.Compact(ins)
	kind := random.Intn(3)
	for range ins {
		outs = append(outs, []int64{random.Int63n(1001), 500 + random.Int63n(5), 1000 * random.Int63n(2)}[kind])
	}
	slices.Sort(outs)
	knots := []impl.Knot{}
	for i, in := range ins {
		knots = append(knots, impl.Knot{In: in, Out: outs[i]})
	}
	return knots
}

// validCurves have 2 to MaxKnots knots, and levels at both ends and between them.
func validCurves() [][]impl.Knot {
	list := [][]impl.Knot{
		curve(0, 0, 1000, 1000), curve(0, 0, 1000, 0), curve(0, 1000, 1000, 1000), curve(0, 500, 1000, 500), curve(0, 1, 1000, 999), curve(0, 0, 1, 1000, 1000, 1000), curve(0, 0, 999, 0, 1000, 1000), curve(0, 0, 500, 0, 501, 1000, 1000, 1000), curve(0, 0, 500, 100, 1000, 1000), curve(0, 5, 1000, 10), curve(0, 0, 1, 0, 2, 1, 3, 1, 1000, 2),
		evenCurve(3), evenCurve(11), evenCurve(15), evenCurve(16), hundreds(0, 10, 40, 90, 160, 250, 360, 490, 640, 810, 1000), hundreds(7, 7, 7, 7, 7, 7, 7, 7, 7, 7, 7),
	}
	random := rand.New(rand.NewSource(120))
	for range 30 {
		list = append(list, randomCurve(random))
	}
	return list
}

// invalidCurves have too few or too many knots, or some that no curve has.
func invalidCurves() [][]impl.Knot {
	list := [][]impl.Knot{
		nil, {}, curve(0, 0), curve(1000, 1000), curve(500, 500), evenCurve(17), evenCurve(18), evenCurve(100), slices.Repeat(curve(0, 0), 16), make([]impl.Knot, 2), make([]impl.Knot, 17),
		// Without a knot at 0 or at FullLevel.
		curve(1, 0, 1000, 1000), curve(0, 0, 999, 1000), curve(1, 0, 999, 1000), curve(0, 0, 1, 1), curve(100, 100, 900, 900), curve(-1, 0, 1000, 1000), curve(0, 0, 1001, 1000), curve(1, 1, 500, 500, 1000, 1000), curve(0, 0, 500, 500, 999, 999),
		// An In twice, or one that decreases.
		curve(0, 0, 0, 0, 1000, 1000), curve(0, 0, 0, 1, 1000, 1000), curve(0, 0, 1000, 1000, 1000, 1000), curve(0, 0, 500, 1, 500, 1, 1000, 2), curve(0, 0, 500, 1, 500, 2, 1000, 3), curve(0, 0, 500, 1, 499, 2, 1000, 3), curve(0, 0, 1000, 1, 500, 1, 1000, 1), curve(1000, 0, 0, 1000), curve(0, 0, 1000, 0, 0, 0, 1000, 0), curve(0, 0, 1000, 1000, 0, 0), curve(0, 0, 500, 500, 1000, 1000, 1001, 1000),
		// An Out that decreases.
		curve(0, 1000, 1000, 0), curve(0, 1, 1000, 0), curve(0, 500, 1000, 499), curve(0, 0, 500, 2, 501, 1, 1000, 1000), curve(0, 1, 500, 0, 1000, 1000), curve(0, 0, 999, 1000, 1000, 999),
	}
	for _, n := range []int64{-1, 1001, -1000, 2000, 1 << 32, minInt, minInt + 1, maxInt} {
		list = append(list, curve(0, n, 1000, 1000), curve(0, 0, 1000, n), curve(0, 0, 500, n, 1000, 1000), curve(0, n, 1000, n), curve(0, 0, n, 500, 1000, 1000), curve(n, 0, 1000, 1000), curve(0, 0, n, 1000))
	}
	return list
}

// noLevels are numbers that are not from 0 to FullLevel.
func noLevels() []int64 {
	return []int64{-1, 1001, -1000, 2000, 1000000, 1 << 32, 1 << 62, minInt, minInt + 1, maxInt}
}

func mask(from, to, low, high, dim int64) impl.Mask {
	return impl.Mask{From: from, To: to, Low: low, High: high, Dim: dim}
}

// around returns a mask of all altitudes.
func around(from, to, dim int64) impl.Mask { return mask(from, to, 0, 90000, dim) }

func randomMask(random *rand.Rand) impl.Mask {
	low, high := random.Int63n(90001), random.Int63n(90001)
	if random.Intn(3) == 0 {
		low, high = 0, 90000
	}
	return mask(randomRight(random), randomRight(random), min(low, high), max(low, high), []int64{0, 1000, 999, 1, random.Int63n(1001)}[random.Intn(5)])
}

func randomMasks(random *rand.Rand, count int) []impl.Mask {
	masks := []impl.Mask{}
	for range count {
		masks = append(masks, randomMask(random))
	}
	return masks
}

// validMasks have numbers at the ends of the ranges and between them.
func validMasks() []impl.Mask {
	list := []impl.Mask{{}, mask(359999, 359999, 90000, 90000, 1000), mask(0, 359999, 0, 90000, 500), mask(359999, 0, 0, 0, 1), mask(350000, 10000, 0, 90000, 500), mask(12345, 6789, 23456, 34567, 789)}
	for _, n := range edgeTurns() {
		list = append(list, around(n, 5, 500), around(5, n, 500), around(n, n, 500))
	}
	for _, n := range []int64{0, 1, 45000, 89999, 90000} {
		list = append(list, mask(0, 0, n, 90000, 500), mask(0, 0, 0, n, 500), mask(0, 0, n, n, 500))
	}
	for _, n := range []int64{0, 1, 500, 999, 1000} {
		list = append(list, around(1, 2, n))
	}
	return list
}

// invalidMasks have one number that no mask has.
func invalidMasks() []impl.Mask {
	list := []impl.Mask{mask(0, 0, 1, 0, 0), mask(0, 0, 90000, 89999, 500), mask(0, 0, 90000, 0, 500), mask(0, 0, 45001, 45000, 500)}
	for _, n := range noTurns() {
		list = append(list, around(n, 0, 500), around(0, n, 500), around(n, n, 500))
	}
	for _, n := range []int64{-1, 90001, -90000, 180000, minInt, maxInt} {
		list = append(list, mask(0, 0, n, 90000, 500), mask(0, 0, 0, n, 500), mask(0, 0, n, n, 500))
	}
	for _, n := range noLevels() {
		list = append(list, around(0, 0, n))
	}
	return list
}

// validMaskLists are lists of none to MaxMasks masks.
func validMaskLists() [][]impl.Mask {
	lists := [][]impl.Mask{nil, {}, slices.Repeat([]impl.Mask{around(0, 359999, 999)}, 8), {around(350000, 10000, 500), mask(0, 90000, 0, 30000, 500)}}
	for _, m := range validMasks() {
		lists = append(lists, []impl.Mask{m})
	}
	random := rand.New(rand.NewSource(121))
	for i := range 40 {
		lists = append(lists, randomMasks(random, i%9))
	}
	return lists
}

// invalidMaskLists are too long, or have a mask that is none.
func invalidMaskLists() [][]impl.Mask {
	lists := [][]impl.Mask{make([]impl.Mask, 9), make([]impl.Mask, 100), slices.Repeat([]impl.Mask{around(0, 359999, 999)}, 9)}
	for _, m := range invalidMasks() {
		lists = append(lists, []impl.Mask{m}, []impl.Mask{around(0, 0, 500), m}, []impl.Mask{m, around(0, 0, 500)}, append(make([]impl.Mask, 7), m))
	}
	return lists
}

// blacksOf returns as many black levels, none of which is the sum of others.
func blacksOf(count int) []int64 { return []int64{1, 2, 4, 8, 16, 32, 64, 128}[:count] }

// noBlacks are lists of levels that are not those of a number of projectors.
func noBlacks(count int) [][]int64 {
	lists := [][]int64{blacksOf(count + 1), slices.Repeat([]int64{5}, count+1), slices.Repeat([]int64{5}, 100)}
	if count > 0 {
		lists = append(lists, nil, []int64{}, blacksOf(count-1))
	}
	for i := range count {
		for _, n := range noLevels() {
			changed := blacksOf(count)
			changed[i] = n
			lists = append(lists, changed)
		}
	}
	return lists
}

// curveCalls are those of all functions of curves that return a code.
func curveCalls(a, b []impl.Knot, level int64) []horizonCall {
	arguments := fmt.Sprintf("(%v, %d)", a, level)
	return []horizonCall{
		{"CurveAt" + arguments, coded(impl.CurveAt(a, level))},
		{"CurveBack" + arguments, coded(impl.CurveBack(a, level))},
		{"RaiseBlack" + arguments, codedMany(impl.RaiseBlack(a, level))},
		{fmt.Sprintf("ComposeCurves(%v, %v)", a, b), codedMany(impl.ComposeCurves(a, b))},
	}
}

// blackCalls are those of all functions of black levels.
func blackCalls(list []impl.Projector, blacks []int64, azimuth, altitude, step int64) []horizonCall {
	arguments := fmt.Sprintf("(%.300q, %v, %d, %d, %d)", fmt.Sprint(list), blacks, azimuth, altitude, step)
	return []horizonCall{
		{"BlackAt" + arguments, coded(impl.BlackAt(list, blacks, azimuth, altitude))},
		{"UniformBlack" + arguments, coded(impl.UniformBlack(list, blacks, step))},
	}
}

// maskCalls are those of all functions of masks that return a code.
func maskCalls(masks []impl.Mask, azimuth, altitude, step int64) []horizonCall {
	arguments := fmt.Sprintf("(%v, %d, %d, %d)", masks, azimuth, altitude, step)
	return []horizonCall{
		{"MaskAt" + arguments, coded(impl.MaskAt(masks, azimuth, altitude))},
		{"MaskMean" + arguments, coded(impl.MaskMean(masks, step))},
	}
}

// Promise 1, for the functions of chapter 12.

func TestP1BrightnessReturnsEqualResults(t *testing.T) {
	numbers := slices.Concat(edgeNumbers(), edgeTurns(), noElevations(), noSteps(), noLevels(), []int64{500, 999, 1000, 10000, 50000, 90000})
	curves, masks := append(validCurves(), invalidCurves()...), append(validMaskLists(), invalidMaskLists()...)
	for i, n := range slices.Repeat(numbers, 4) {
		o, p := numbers[(5*i+7)%len(numbers)], numbers[(3*i+11)%len(numbers)]
		a, b, m := curves[(3*i)%len(curves)], curves[(7*i+1)%len(curves)], masks[(5*i)%len(masks)]
		checkRepeats(t, fmt.Sprintf("functions of the curves %v, %v, the masks %v and the numbers %d, %d, %d", a, b, m, n, o, p), func() []any {
			calls := slices.Concat(curveCalls(a, b, n), curveCalls(b, a, o), curveCalls(curve(0, n, 1000, o), a, p), maskCalls(m, n, o, p), maskCalls(m, 0, o, n), maskCalls([]impl.Mask{mask(n, o, p, n, o)}, p, 0, o), maskCalls([]impl.Mask{around(n, o, p)}, n, 0, 10000))
			return append(resultsOf(calls...), impl.ValidCurve(a), impl.CurveText(a), impl.ValidMasks(m), impl.ValidCurve(curve(n, o, p, n)), impl.CurveText(curve(0, n, 1000, o)), codedMany(impl.PowerCurve(n)))
		})
	}
	for _, s := range edgeTexts() {
		for _, text := range []string{s, "0:0 " + s, s + " 1000:1000", "0:" + s + " 1000:1000", s + ":" + s} {
			checkRepeats(t, fmt.Sprintf("ReadCurve(%.60q)", text), func() []any {
				knots, ok := impl.ReadCurve(text)
				return []any{knots, ok}
			})
		}
	}
}

func TestP1BlackLevelsReturnEqualResults(t *testing.T) {
	numbers := slices.Concat(edgeNumbers(), edgeTurns(), noSteps(), noLevels(), []int64{10000, 50000})
	for i, list := range append(validProjectorLists(), invalidProjectorLists()...) {
		for k := range 5 {
			n, o, p := numbers[(5*i+11*k)%len(numbers)], numbers[(3*i+7*k)%len(numbers)], numbers[(i+13*k)%len(numbers)]
			checkRepeats(t, fmt.Sprintf("black levels of the projectors %v and the numbers %d, %d, %d", list, n, o, p), func() []any {
				blacks := slices.Repeat([]int64{n}, len(list))
				return resultsOf(slices.Concat(blackCalls(list, blacks, o, p, n), blackCalls(list, blacks, 0, 0, 90000), blackCalls(list, []int64{n, o, p}, 0, 0, 90000), blackCalls(list, blacksOf(len(list)%8), n, o, p))...)
			})
		}
	}
}

func TestP1BrightnessKeepsItsArguments(t *testing.T) {
	curves := append(validCurves(), invalidCurves()...)
	knots := slices.Repeat(curve(7, 7), 20)
	for i, a := range curves {
		b := curves[(i+1)%len(curves)]
		call := fmt.Sprintf("functions of the curves %v, %v", a, b)
		checkListKept(t, call, a, knots, func(first []impl.Knot) {
			checkListKept(t, call, b, knots, func(second []impl.Knot) {
				for _, n := range []int64{-1, 0, 7, 500, 1000, 1001} {
					curveCalls(first, second, n)
					curveCalls(second, first, n)
					curveCalls(first, first, n)
				}
				impl.ValidCurve(first)
				impl.CurveText(first)
			})
		})
	}
	for _, masks := range append(validMaskLists(), invalidMaskLists()...) {
		checkListKept(t, fmt.Sprintf("functions of the masks %v", masks), masks, slices.Repeat([]impl.Mask{around(0, 359999, 7)}, 10), func(m []impl.Mask) {
			impl.ValidMasks(m)
			maskCalls(m, 12345, 23456, 45000)
			maskCalls(m, -1, 0, 0)
		})
	}
}

func TestP1BlackLevelsKeepTheirArguments(t *testing.T) {
	for _, list := range append(validProjectorLists(), invalidProjectorLists()...) {
		for _, blacks := range [][]int64{nil, blacksOf(len(list) % 8), {1001}} {
			call := fmt.Sprintf("functions of the projectors %v and the black levels %v", list, blacks)
			checkListKept(t, call, list, []impl.Projector{forwards("x", 7), {}}, func(l []impl.Projector) {
				checkKept(t, call, blacks, func(b []int64) {
					blackCalls(l, b, 12345, 23456, 45000)
					blackCalls(l, b, -1, 0, 0)
				})
			})
		}
	}
}

func TestP1CurvesHaveMemoryOfTheirOwn(t *testing.T) {
	other := impl.Knot{In: 8888, Out: -8888}
	for _, list := range validCurves() {
		for _, level := range []int64{0, 500, 1000} {
			checkMadeOf(t, "RaiseBlack", other, [][]impl.Knot{list}, func(curves [][]impl.Knot) []impl.Knot {
				knots, code := impl.RaiseBlack(curves[0], level)
				return withoutCode(t, knots, code)
			})
		}
		for _, second := range []int{0, 1} {
			checkMadeOf(t, "ComposeCurves", other, [][]impl.Knot{list, evenCurve(11)}, func(curves [][]impl.Knot) []impl.Knot {
				knots, code := impl.ComposeCurves(curves[0], curves[second])
				return withoutCode(t, knots, code)
			})
		}
	}
	for exponent := int64(1); exponent <= 5; exponent++ {
		checkNewList(t, "PowerCurve", other, func() []impl.Knot {
			knots, code := impl.PowerCurve(exponent)
			return withoutCode(t, knots, code)
		}, func() bool { return true })
	}
	checkNewList(t, "ReadCurve", other, func() []impl.Knot {
		knots, _ := impl.ReadCurve("0:1 500:2 1000:3")
		return knots
	}, func() bool { return true })
}

// Promise 13: valid curves.

func TestP13BrightnessConstants(t *testing.T) {
	checkResult(t, "constants", []int64{impl.FullLevel, impl.MaxKnots, impl.MaxMasks}, []int64{1000, 16, 8})
}

func TestP13ValidCurve(t *testing.T) {
	for _, knots := range validCurves() {
		checkResult(t, fmt.Sprintf("ValidCurve(%v)", knots), impl.ValidCurve(knots), true)
	}
	for count := int64(2); count <= 20; count++ {
		checkResult(t, fmt.Sprintf("ValidCurve of %d knots", count), impl.ValidCurve(evenCurve(count)), count <= 16)
	}
	for _, knots := range invalidCurves() {
		checkResult(t, fmt.Sprintf("ValidCurve(%v)", knots), impl.ValidCurve(knots), false)
	}
}

func TestP13InvalidCurvesAreRefusedFirst(t *testing.T) {
	for _, knots := range invalidCurves() {
		for _, n := range []int64{0, 1, 500, 1000, -1, 1001, minInt, maxInt} {
			for _, other := range [][]impl.Knot{curve(0, 0, 1000, 1000), knots, nil} {
				checkRefused(t, curveCalls(knots, other, n), impl.ErrInvalid)
				checkResult(t, fmt.Sprintf("ComposeCurves(%v, %v)", other, knots), codedMany(impl.ComposeCurves(other, knots)), codedMany[impl.Knot](nil, impl.ErrInvalid))
			}
		}
	}
}

func TestP13OtherLevelsAreRefused(t *testing.T) {
	for _, knots := range validCurves() {
		for _, n := range noLevels() {
			checkRefused(t, curveCalls(knots, nil, n)[:3], impl.ErrRange)
		}
	}
}

// Promise 13: the levels of curves.

func TestP13CurveAtCases(t *testing.T) {
	bent, rise := curve(0, 0, 500, 100, 1000, 1000), curve(0, 7, 3, 8, 4, 8, 10, 11, 1000, 900)
	cases := []struct {
		knots   []impl.Knot
		x, want int64
	}{
		{bent, 0, 0}, {bent, 250, 50}, {bent, 500, 100}, {bent, 1000, 1000}, {bent, 750, 550}, {bent, 501, 102}, {bent, 999, 998}, {bent, 499, 100}, {bent, 1, 0}, {bent, 2, 0}, {bent, 3, 1},
		// One half goes up.
		{curve(0, 0, 2, 1, 1000, 1), 1, 1}, {curve(0, 0, 4, 1, 1000, 1), 1, 0}, {curve(0, 0, 4, 1, 1000, 1), 2, 1}, {curve(0, 0, 4, 6, 1000, 6), 1, 2}, {curve(0, 5, 1000, 6), 499, 5}, {curve(0, 5, 1000, 6), 500, 6}, {curve(0, 0, 1000, 500), 1, 1}, {curve(0, 0, 1000, 499), 1, 0},
		{rise, 0, 7}, {rise, 1, 7}, {rise, 2, 8}, {rise, 3, 8}, {rise, 4, 8}, {rise, 5, 9}, {rise, 6, 9}, {rise, 7, 10}, {rise, 8, 10}, {rise, 9, 11}, {rise, 10, 11}, {rise, 11, 12}, {rise, 1000, 900},
		{curve(0, 0, 1, 1000, 1000, 1000), 1, 1000}, {curve(0, 0, 999, 0, 1000, 1000), 999, 0}, {curve(0, 0, 999, 0, 1000, 1000), 1000, 1000}, {curve(0, 0, 500, 0, 501, 1000, 1000, 1000), 500, 0}, {curve(0, 0, 500, 0, 501, 1000, 1000, 1000), 501, 1000}, {curve(0, 500, 1000, 500), 777, 500}, {curve(0, 1000, 1000, 1000), 0, 1000},
	}
	for _, c := range cases {
		checkResult(t, fmt.Sprintf("CurveAt(%v, %d)", c.knots, c.x), coded(impl.CurveAt(c.knots, c.x)), coded(c.want, impl.OK))
	}
}

// plainCurve follows the text of the document.
func plainCurve(knots []impl.Knot, x int64) int64 {
	for i, k := range knots {
		if k.In == x {
			return k.Out
		}
		if k.In > x {
			return plainBlend(knots[i-1].In, knots[i-1].Out, k.In, k.Out, x)
		}
	}
	return -1
}

// plainBack tries all levels.
func plainBack(knots []impl.Knot, y int64) codedNumber {
	for x := range int64(1001) {
		if plainCurve(knots, x) >= y {
			return coded(x, impl.OK)
		}
	}
	return coded(0, impl.ErrNotFound)
}

func TestP13CurvesEverywhere(t *testing.T) {
	for _, knots := range validCurves() {
		for x := range int64(1001) {
			checkResult(t, fmt.Sprintf("CurveAt(%v, %d)", knots, x), coded(impl.CurveAt(knots, x)), coded(plainCurve(knots, x), impl.OK))
		}
	}
}

func TestP13CurvesNeverFall(t *testing.T) {
	random := rand.New(rand.NewSource(122))
	curves := validCurves()
	for range 100 {
		curves = append(curves, randomCurve(random))
	}
	for i, knots := range curves {
		two, _ := impl.ComposeCurves(knots, curves[(i+1)%len(curves)])
		raised, _ := impl.RaiseBlack(knots, random.Int63n(1001))
		for _, c := range [][]impl.Knot{knots, two, raised} {
			before := int64(0)
			for x := range int64(1001) {
				y, code := impl.CurveAt(c, x)
				if code != impl.OK || y < before || y > 1000 {
					t.Fatalf("CurveAt(%v, %d): got %d, %d behind %d", c, x, y, code, before)
				}
				before = y
			}
		}
	}
}

func TestP13CurveBackCases(t *testing.T) {
	bent, steps := curve(0, 0, 500, 100, 1000, 1000), curve(0, 5, 100, 5, 101, 700, 900, 700, 1000, 990)
	cases := []struct {
		knots []impl.Knot
		y     int64
		want  codedNumber
	}{
		{bent, 100, coded(498, impl.OK)}, {bent, 0, coded(0, impl.OK)}, {bent, 1000, coded(1000, impl.OK)}, {bent, 1, coded(3, impl.OK)}, {bent, 99, coded(493, impl.OK)}, {bent, 101, coded(501, impl.OK)}, {bent, 102, coded(501, impl.OK)}, {bent, 999, coded(1000, impl.OK)}, {bent, 998, coded(999, impl.OK)},
		// Several levels lead to these.
		{steps, 0, coded(0, impl.OK)}, {steps, 5, coded(0, impl.OK)}, {steps, 6, coded(101, impl.OK)}, {steps, 699, coded(101, impl.OK)}, {steps, 700, coded(101, impl.OK)}, {steps, 701, coded(901, impl.OK)}, {steps, 990, coded(1000, impl.OK)},
		// No level leads to these.
		{steps, 991, coded(0, impl.ErrNotFound)}, {steps, 1000, coded(0, impl.ErrNotFound)}, {curve(0, 5, 1000, 10), 11, coded(0, impl.ErrNotFound)}, {curve(0, 5, 1000, 10), 10, coded(900, impl.OK)}, {curve(0, 5, 1000, 10), 5, coded(0, impl.OK)}, {curve(0, 5, 1000, 10), 6, coded(100, impl.OK)}, {curve(0, 0, 1000, 0), 0, coded(0, impl.OK)}, {curve(0, 0, 1000, 0), 1, coded(0, impl.ErrNotFound)}, {curve(0, 0, 1000, 0), 1000, coded(0, impl.ErrNotFound)},
		{curve(0, 1000, 1000, 1000), 1000, coded(0, impl.OK)}, {curve(0, 0, 1000, 1000), 777, coded(777, impl.OK)}, {curve(0, 0, 999, 0, 1000, 1000), 1, coded(1000, impl.OK)}, {curve(0, 0, 1, 1000, 1000, 1000), 1000, coded(1, impl.OK)}, {curve(0, 0, 1000, 999), 1000, coded(0, impl.ErrNotFound)},
	}
	for _, c := range cases {
		checkResult(t, fmt.Sprintf("CurveBack(%v, %d)", c.knots, c.y), coded(impl.CurveBack(c.knots, c.y)), c.want)
	}
}

func TestP13CurvesLeadBack(t *testing.T) {
	for _, knots := range validCurves() {
		for y := int64(0); y <= 1000; y += 5 {
			for _, level := range []int64{y, max(knots[0].Out-1, 0), knots[0].Out, min(knots[0].Out+1, 1000), knots[len(knots)-1].Out, min(knots[len(knots)-1].Out+1, 1000)} {
				checkResult(t, fmt.Sprintf("CurveBack(%v, %d)", knots, level), coded(impl.CurveBack(knots, level)), plainBack(knots, level))
			}
		}
	}
}

func TestP13ComposeCurves(t *testing.T) {
	bent := curve(0, 0, 500, 100, 1000, 1000)
	cases := []struct{ a, b, want []impl.Knot }{
		{bent, bent, hundreds(0, 4, 8, 12, 16, 20, 56, 92, 352, 676, 1000)}, {curve(0, 0, 1000, 1000), bent, hundreds(0, 20, 40, 60, 80, 100, 280, 460, 640, 820, 1000)}, {bent, curve(0, 0, 1000, 1000), hundreds(0, 20, 40, 60, 80, 100, 280, 460, 640, 820, 1000)}, {curve(0, 0, 1000, 1000), curve(0, 0, 1000, 1000), evenCurve(11)},
		// The first one is followed first.
		{curve(0, 500, 1000, 500), bent, hundreds(100, 100, 100, 100, 100, 100, 100, 100, 100, 100, 100)}, {bent, curve(0, 500, 1000, 500), hundreds(500, 500, 500, 500, 500, 500, 500, 500, 500, 500, 500)}, {curve(0, 0, 1000, 500), curve(0, 0, 500, 0, 1000, 1000), hundreds(0, 0, 0, 0, 0, 0, 0, 0, 0, 0, 0)}, {curve(0, 0, 500, 0, 1000, 1000), curve(0, 0, 1000, 500), hundreds(0, 0, 0, 0, 0, 0, 100, 200, 300, 400, 500)},
		// A step between two of the places is a slope then.
		{curve(0, 0, 149, 0, 150, 1000, 1000, 1000), curve(0, 0, 1000, 1000), hundreds(0, 0, 1000, 1000, 1000, 1000, 1000, 1000, 1000, 1000, 1000)},
	}
	for _, c := range cases {
		checkResult(t, fmt.Sprintf("ComposeCurves(%v, %v)", c.a, c.b), codedMany(impl.ComposeCurves(c.a, c.b)), codedMany(c.want, impl.OK))
	}
	curves := validCurves()
	for i, a := range curves {
		for _, b := range [][]impl.Knot{a, curves[(i+1)%len(curves)], curves[(5*i+2)%len(curves)]} {
			want := []impl.Knot{}
			for x := int64(0); x <= 1000; x += 100 {
				want = append(want, impl.Knot{In: x, Out: plainCurve(b, plainCurve(a, x))})
			}
			checkResult(t, fmt.Sprintf("ComposeCurves(%v, %v)", a, b), codedMany(impl.ComposeCurves(a, b)), codedMany(want, impl.OK))
			checkResult(t, fmt.Sprintf("ValidCurve(%v)", want), impl.ValidCurve(want), true)
		}
	}
}

func TestP13PowerCurve(t *testing.T) {
	cases := [][]impl.Knot{
		evenCurve(11), hundreds(0, 10, 40, 90, 160, 250, 360, 490, 640, 810, 1000), hundreds(0, 1, 8, 27, 64, 125, 216, 343, 512, 729, 1000),
		// One half goes up, and each rounding is that of the one before.
		hundreds(0, 0, 2, 8, 26, 63, 130, 240, 410, 656, 1000), hundreds(0, 0, 0, 2, 10, 32, 78, 168, 328, 590, 1000),
	}
	for i, want := range cases {
		checkResult(t, fmt.Sprintf("PowerCurve(%d)", i+1), codedMany(impl.PowerCurve(int64(i+1))), codedMany(want, impl.OK))
		checkResult(t, fmt.Sprintf("ValidCurve(%v)", want), impl.ValidCurve(want), true)
	}
	for _, n := range append(edgeNumbers(), 6, 10, 100, 1000) {
		if n < 1 || n > 5 {
			checkResult(t, fmt.Sprintf("PowerCurve(%d)", n), codedMany(impl.PowerCurve(n)), codedMany[impl.Knot](nil, impl.ErrRange))
		}
	}
}

func TestP13RaiseBlackCases(t *testing.T) {
	cases := []struct {
		knots []impl.Knot
		level int64
		want  []impl.Knot
	}{
		{curve(0, 0, 500, 100, 1000, 1000), 100, curve(0, 100, 500, 190, 1000, 1000)}, {curve(0, 0, 500, 100, 1000, 1000), 0, curve(0, 0, 500, 100, 1000, 1000)}, {curve(0, 0, 500, 100, 1000, 1000), 1000, curve(0, 1000, 500, 1000, 1000, 1000)}, {curve(0, 0, 500, 100, 1000, 1000), 999, curve(0, 999, 500, 999, 1000, 1000)}, {curve(0, 0, 500, 100, 1000, 1000), 1, curve(0, 1, 500, 101, 1000, 1000)},
		// The products are 499.5 and 500.5, and 0.4, 0.5 and 0.6.
		{curve(0, 499, 1, 500, 2, 501, 1000, 999), 1, curve(0, 500, 1, 501, 2, 501, 1000, 999)}, {curve(0, 400, 1, 500, 2, 600, 1000, 1000), 999, curve(0, 999, 1, 1000, 2, 1000, 1000, 1000)}, {curve(0, 1, 500, 2, 1000, 3), 500, curve(0, 501, 500, 501, 1000, 502)}, {curve(0, 0, 1000, 0), 7, curve(0, 7, 1000, 7)},
	}
	for _, c := range cases {
		checkResult(t, fmt.Sprintf("RaiseBlack(%v, %d)", c.knots, c.level), codedMany(impl.RaiseBlack(c.knots, c.level)), codedMany(c.want, impl.OK))
	}
}

func TestP13RaisedCurves(t *testing.T) {
	random := rand.New(rand.NewSource(123))
	for _, knots := range validCurves() {
		for _, level := range []int64{0, 1, 499, 500, 999, 1000, random.Int63n(1001), random.Int63n(1001)} {
			want := slices.Clone(knots)
			for i := range want {
				want[i].Out = level + plainQuotient(want[i].Out*(1000-level), 1000)
				if want[i].Out < max(level, knots[i].Out) {
					t.Errorf("RaiseBlack(%v, %d): %v is lower than before", knots, level, want[i])
				}
			}
			checkResult(t, fmt.Sprintf("RaiseBlack(%v, %d)", knots, level), codedMany(impl.RaiseBlack(knots, level)), codedMany(want, impl.OK))
			checkResult(t, fmt.Sprintf("ValidCurve(%v)", want), impl.ValidCurve(want), true)
		}
	}
}

// Promise 13: black levels.

func TestP13BlackCases(t *testing.T) {
	all, up, edge, down := upwards("", 120000, 900), upwards("", 45000, 30), upwards("", 90000, 1), downwards("")
	// In the zenith, this has the weight 1, which is too little for a share beside two of 1001.
	least := projector("", 90000, 30000, 60000, 1)
	cases := []struct {
		list              []impl.Projector
		blacks            []int64
		azimuth, altitude int64
		want              int64
	}{
		{nil, nil, 0, 0, 0}, {[]impl.Projector{}, []int64{}, 359999, 90000, 0}, {named(down), []int64{1000}, 0, 0, 0}, {named(down, down), []int64{5, 7}, 0, 90000, 0}, {named(all), []int64{1000}, 0, 0, 1000}, {named(all), []int64{0}, 0, 0, 0},
		{named(all, up), []int64{5, 7}, 0, 30000, 5}, {named(all, up), []int64{5, 7}, 0, 90000, 12}, {named(up, all), []int64{5, 7}, 0, 30000, 7}, {named(down, up, all, down, up), []int64{1, 2, 4, 8, 16}, 77777, 60000, 22}, {named(down, up, all, down, up), []int64{1, 2, 4, 8, 16}, 77777, 30000, 4},
		// Neither weights nor powers matter, and the sum may be greater than FullLevel.
		{equalProjectors(6), []int64{1000, 1000, 1000, 1000, 1000, 1000}, 0, 0, 6000}, {equalProjectors(6), []int64{1, 2, 4, 8, 16, 32}, 123456, 54321, 63}, {named(all, edge), []int64{5, 7}, 0, 0, 12}, {named(all, upwards("", 89999, 1)), []int64{5, 7}, 0, 0, 5},
		{named(all, all, least), []int64{1, 2, 4}, 0, 90000, 7}, {named(least, all, up), []int64{1, 2, 4}, 0, 90000, 7}, {named(least), []int64{9}, 0, 90000, 9}, {named(all, all, least), []int64{1, 2, 4}, 270000, 89000, 3},
		{named(forwards("", 0), forwards("", 180000)), []int64{5, 7}, 0, 0, 5}, {named(forwards("", 0), forwards("", 180000)), []int64{5, 7}, 180000, 0, 7}, {named(forwards("", 0), forwards("", 180000)), []int64{5, 7}, 90000, 0, 12}, {named(forwards("", 0), forwards("", 180000)), []int64{5, 7}, 0, 90000, 12}, {named(forwards("", 359000)), []int64{5}, 1000, 0, 5},
	}
	for _, c := range cases {
		call := fmt.Sprintf("BlackAt(%v, %v, %d, %d)", c.list, c.blacks, c.azimuth, c.altitude)
		checkResult(t, call, coded(impl.BlackAt(c.list, c.blacks, c.azimuth, c.altitude)), coded(c.want, impl.OK))
	}
}

func TestP13UniformBlackCases(t *testing.T) {
	all, up, down := upwards("", 120000, 900), upwards("", 45000, 30), downwards("")
	// single reaches just one spot for the step 70000.
	single := func(azimuth int64) impl.Projector { return projector("", azimuth, 0, 5000, 1) }
	cases := []struct {
		list       []impl.Projector
		blacks     []int64
		step, want int64
	}{
		{nil, nil, 10000, 0}, {[]impl.Projector{}, []int64{}, 90000, 0}, {named(down), []int64{1000}, 10000, 0}, {named(all), []int64{1000}, 10000, 1000}, {named(all), []int64{0}, 90000, 0}, {named(all, up), []int64{5, 7}, 90000, 12}, {named(all, up), []int64{5, 7}, 10000, 12}, {named(up, down), []int64{5, 1000}, 45000, 5},
		{equalProjectors(6), slices.Repeat([]int64{1000}, 6), 45000, 6000}, {named(single(0), single(70000), single(140000)), []int64{5, 9, 7}, 70000, 9}, {named(single(0), single(70000), single(70000)), []int64{8, 4, 5}, 70000, 9}, {named(single(0), single(70000), single(140000)), []int64{5, 9, 7}, 90000, 5}, {named(single(45000)), []int64{5}, 90000, 0}, {named(upwards("", 5000, 1)), []int64{5}, 70000, 0}, {named(upwards("", 5000, 1)), []int64{5}, 90000, 5},
		{named(all, all, projector("", 90000, 30000, 60000, 1)), []int64{1, 2, 4}, 90000, 7}, {named(forwards("", 0), forwards("", 120000), forwards("", 240000)), []int64{1, 2, 4}, 90000, 7}, {named(forwards("", 45000), forwards("", 225000)), []int64{5, 7}, 89999, 7}, {named(forwards("", 45000), forwards("", 225000)), []int64{5, 7}, 90000, 12},
	}
	for _, c := range cases {
		call := fmt.Sprintf("UniformBlack(%v, %v, %d)", c.list, c.blacks, c.step)
		checkResult(t, call, coded(impl.UniformBlack(c.list, c.blacks, c.step)), coded(c.want, impl.OK))
	}
}

func TestP13BlackIsRefused(t *testing.T) {
	for _, list := range invalidProjectorLists() {
		for _, blacks := range [][]int64{nil, {5}, slices.Repeat([]int64{5}, len(list)), {-1}, slices.Repeat([]int64{1001}, len(list))} {
			for _, n := range [][3]int64{{0, 0, 10000}, {359999, 90000, 90000}, {-1, 0, 9999}, {0, 90001, 90001}, {minInt, maxInt, minInt}} {
				checkRefused(t, blackCalls(list, blacks, n[0], n[1], n[2]), impl.ErrInvalid)
			}
		}
	}
	for _, list := range validProjectorLists() {
		for _, blacks := range noBlacks(len(list)) {
			checkRefused(t, blackCalls(list, blacks, 0, 0, 90000), impl.ErrRange)
		}
		blacks := blacksOf(len(list))
		for _, n := range append(notUp(), [2]int64{360000, 45000}, [2]int64{0, 90001}) {
			checkRefused(t, blackCalls(list, blacks, n[0], n[1], 0)[:1], impl.ErrRange)
		}
		for _, step := range noSteps() {
			checkRefused(t, blackCalls(list, blacks, 0, 0, step)[1:], impl.ErrRange)
		}
		ends := slices.Repeat([]int64{0, 1000}, len(list))[:len(list)]
		checkResult(t, fmt.Sprintf("the code of UniformBlack(%v, %v, 90000)", list, ends), coded(impl.UniformBlack(list, ends, 90000)).code, impl.OK)
	}
}

func TestP13BlackEverywhere(t *testing.T) {
	sines, random := allSines(), rand.New(rand.NewSource(124))
	for _, n := range upDirections(random, 1000) {
		list := randomProjectors(random, random.Intn(7))
		blacks, want := blacksOf(len(list)), int64(0)
		for i, w := range plainWeights(sines, list, n[0], n[1]) {
			if w > 0 {
				want += blacks[i]
			}
		}
		checkResult(t, fmt.Sprintf("BlackAt(%v, %v, %v)", list, blacks, n), coded(impl.BlackAt(list, blacks, n[0], n[1])), coded(want, impl.OK))
	}
}

func TestP13UniformBlackIsJustEnoughEverywhere(t *testing.T) {
	random := rand.New(rand.NewSource(125))
	for i, list := range slices.Repeat(validProjectorLists(), 3) {
		blacks := []int64{}
		for range list {
			blacks = append(blacks, []int64{0, 1000, 1, random.Int63n(1001)}[random.Intn(4)])
		}
		step := []int64{10000, 15000, 90000, 25000, 77777, 10000 + random.Int63n(80001)}[i%6]
		call := fmt.Sprintf("UniformBlack(%v, %v, %d)", list, blacks, step)
		uniform, code := impl.UniformBlack(list, blacks, step)
		checkResult(t, "the code of "+call, code, impl.OK)
		most := int64(0)
		for _, at := range plainSpots(step) {
			black, code := impl.BlackAt(list, blacks, at[0], at[1])
			if code != impl.OK || black > uniform {
				t.Errorf("%s: got %d, but %v has %d, %d", call, uniform, at, black, code)
			}
			most = max(most, black)
		}
		checkResult(t, call, uniform, most)
	}
}

func TestP13BlackDoesNotDependOnScheduling(t *testing.T) {
	defer runtime.GOMAXPROCS(runtime.GOMAXPROCS(0))
	all := func() []any {
		results := []any{}
		for _, list := range validProjectorLists() {
			results = append(results, resultsOf(blackCalls(list, blacksOf(len(list)), 0, 60000, 10000)...)...)
		}
		return results
	}
	want := all()
	for _, count := range []int{1, 2, 8, 64} {
		runtime.GOMAXPROCS(count)
		if !reflect.DeepEqual(all(), want) {
			t.Errorf("with %d processors, results differ", count)
		}
	}
}

// Promise 13: masks.

func TestP13ValidMasks(t *testing.T) {
	for _, masks := range validMaskLists() {
		checkResult(t, fmt.Sprintf("ValidMasks(%v)", masks), impl.ValidMasks(masks), true)
	}
	for _, masks := range invalidMaskLists() {
		checkResult(t, fmt.Sprintf("ValidMasks(%v)", masks), impl.ValidMasks(masks), false)
	}
	for count := range 12 {
		checkResult(t, fmt.Sprintf("ValidMasks of %d masks", count), impl.ValidMasks(make([]impl.Mask, count)), count <= 8)
	}
}

func TestP13MasksAreRefused(t *testing.T) {
	for _, masks := range invalidMaskLists() {
		for _, n := range [][3]int64{{0, 0, 10000}, {359999, 90000, 90000}, {-1, 0, 9999}, {0, 90001, 90001}, {minInt, maxInt, minInt}} {
			checkRefused(t, maskCalls(masks, n[0], n[1], n[2]), impl.ErrInvalid)
		}
	}
	for _, masks := range validMaskLists() {
		for _, n := range notUp() {
			checkRefused(t, maskCalls(masks, n[0], n[1], 0)[:1], impl.ErrRange)
		}
		for _, step := range noSteps() {
			checkRefused(t, maskCalls(masks, 0, 0, step)[1:], impl.ErrRange)
		}
	}
}

func checkMask(t *testing.T, masks []impl.Mask, azimuth, altitude, want int64) {
	t.Helper()
	checkResult(t, fmt.Sprintf("MaskAt(%v, %d, %d)", masks, azimuth, altitude), coded(impl.MaskAt(masks, azimuth, altitude)), coded(want, impl.OK))
}

func TestP13MaskAtCases(t *testing.T) {
	cases := []struct {
		m    impl.Mask
		has  [][2]int64
		lack [][2]int64
	}{
		// From less than To.
		{around(10000, 20000, 0), [][2]int64{{10000, 0}, {10001, 90000}, {15000, 45000}, {19999, 0}, {20000, 0}}, [][2]int64{{9999, 0}, {20001, 0}, {0, 45000}, {359999, 0}, {200000, 90000}}},
		{around(0, 359999, 0), [][2]int64{{0, 0}, {359999, 0}, {180000, 90000}}, nil}, {around(0, 180000, 0), [][2]int64{{0, 0}, {1, 0}, {180000, 0}}, [][2]int64{{359999, 0}, {180001, 0}}}, {around(180000, 359999, 0), [][2]int64{{180000, 0}, {359999, 0}}, [][2]int64{{0, 0}, {179999, 0}}}, {around(1, 359998, 0), [][2]int64{{1, 0}, {359998, 0}, {180000, 0}}, [][2]int64{{0, 0}, {359999, 0}}},
		// From equal to To.
		{around(90000, 90000, 0), [][2]int64{{90000, 0}, {90000, 90000}}, [][2]int64{{89999, 0}, {90001, 0}, {270000, 0}, {0, 0}}}, {around(0, 0, 0), [][2]int64{{0, 0}}, [][2]int64{{1, 0}, {359999, 0}, {180000, 0}}}, {around(359999, 359999, 0), [][2]int64{{359999, 0}}, [][2]int64{{0, 0}, {359998, 0}}},
		// Across north.
		{around(350000, 10000, 0), [][2]int64{{0, 0}, {359999, 0}, {350000, 0}, {350001, 0}, {9999, 0}, {10000, 0}}, [][2]int64{{349999, 0}, {10001, 0}, {180000, 0}, {90000, 90000}, {270000, 0}}}, {around(359999, 0, 0), [][2]int64{{359999, 0}, {0, 0}}, [][2]int64{{1, 0}, {359998, 0}, {180000, 0}}}, {around(180001, 180000, 0), [][2]int64{{0, 0}, {180000, 0}, {180001, 0}, {359999, 0}, {90000, 0}, {270000, 0}}, nil}, {around(1, 0, 0), [][2]int64{{0, 0}, {1, 0}, {2, 0}, {359999, 0}}, nil}, {around(180000, 0, 0), [][2]int64{{0, 0}, {180000, 0}, {359999, 0}}, [][2]int64{{1, 0}, {179999, 0}, {90000, 0}}}, {around(359999, 179999, 0), [][2]int64{{0, 0}, {179999, 0}, {359999, 0}}, [][2]int64{{180000, 0}, {359998, 0}, {270000, 0}}}, {around(90001, 89999, 0), [][2]int64{{89999, 0}, {90001, 0}, {0, 0}, {359999, 0}}, [][2]int64{{90000, 0}}},
		// Altitudes.
		{mask(0, 359999, 30000, 60000, 0), [][2]int64{{0, 30000}, {0, 30001}, {5, 45000}, {359999, 59999}, {0, 60000}}, [][2]int64{{0, 29999}, {0, 60001}, {0, 0}, {0, 90000}}}, {mask(0, 359999, 45000, 45000, 0), [][2]int64{{7, 45000}}, [][2]int64{{7, 44999}, {7, 45001}}}, {mask(0, 359999, 0, 0, 0), [][2]int64{{7, 0}}, [][2]int64{{7, 1}, {7, 90000}}}, {mask(0, 359999, 90000, 90000, 0), [][2]int64{{7, 90000}}, [][2]int64{{7, 89999}, {7, 0}}}, {mask(350000, 10000, 30000, 60000, 0), [][2]int64{{0, 30000}, {355000, 60000}}, [][2]int64{{0, 29999}, {355000, 60001}, {20000, 45000}}},
	}
	for _, c := range cases {
		for _, dim := range []int64{0, 1, 500, 999, 1000} {
			c.m.Dim = dim
			for _, d := range c.has {
				checkMask(t, []impl.Mask{c.m}, d[0], d[1], dim)
			}
			for _, d := range c.lack {
				checkMask(t, []impl.Mask{c.m}, d[0], d[1], 1000)
			}
		}
	}
}

func TestP13SeveralMasks(t *testing.T) {
	cases := []struct {
		dims []int64
		want int64
	}{
		{nil, 1000}, {[]int64{500, 500}, 250}, {[]int64{500, 500, 500}, 125}, {[]int64{500, 500, 500, 500}, 62}, {[]int64{500, 500, 500, 500, 500}, 31}, {[]int64{500, 500, 500, 500, 500, 500, 500, 500}, 3}, {[]int64{999, 999}, 998}, {[]int64{999, 999, 999}, 997}, {[]int64{1, 999}, 0}, {[]int64{999, 1}, 0}, {[]int64{1, 1000}, 1}, {[]int64{0, 1000}, 0}, {[]int64{1000, 1000, 1000, 1000, 1000, 1000, 1000, 1000}, 1000},
		// Each product is rounded down, so that the order may matter.
		{[]int64{3, 500, 700}, 0}, {[]int64{700, 500, 3}, 1}, {[]int64{333, 667, 750}, 166}, {[]int64{750, 667, 333}, 166}, {[]int64{7, 300, 600}, 1}, {[]int64{600, 300, 7}, 1}, {[]int64{15, 150, 500}, 1}, {[]int64{500, 150, 15}, 1}, {[]int64{19, 160, 700}, 2}, {[]int64{19, 700, 160}, 2}, {[]int64{29, 70, 999}, 1}, {[]int64{999, 29, 70}, 1}, {[]int64{29, 999, 70}, 1}, {[]int64{2, 999, 600}, 0}, {[]int64{600, 2, 999}, 0}, {[]int64{999, 600, 2}, 1},
	}
	for _, c := range cases {
		masks := []impl.Mask{}
		for _, dim := range c.dims {
			masks = append(masks, around(350000, 10000, dim))
		}
		checkMask(t, masks, 0, 45000, c.want)
		checkMask(t, masks, 20000, 45000, 1000)
	}
	west, low := around(350000, 10000, 500), mask(0, 90000, 0, 30000, 300)
	for _, masks := range [][]impl.Mask{{west, low}, {low, west}} {
		checkMask(t, masks, 0, 10000, 150)
		checkMask(t, masks, 0, 30001, 500)
		checkMask(t, masks, 50000, 10000, 300)
		checkMask(t, masks, 180000, 10000, 1000)
	}
}

// plainMask follows the text of the document.
func plainMask(masks []impl.Mask, azimuth, altitude int64) int64 {
	level := int64(1000)
	for _, m := range masks {
		isAround := m.From <= azimuth && azimuth <= m.To
		if m.From > m.To {
			isAround = azimuth >= m.From || azimuth <= m.To
		}
		if isAround && m.Low <= altitude && altitude <= m.High {
			level = level * m.Dim / 1000
		}
	}
	return level
}

func TestP13MasksEverywhere(t *testing.T) {
	random := rand.New(rand.NewSource(126))
	directions := upDirections(random, 300)
	for i, masks := range validMaskLists() {
		for _, d := range directions {
			checkMask(t, masks, d[0], d[1], plainMask(masks, d[0], d[1]))
		}
		// The ends of the masks, and what is just beyond them.
		for _, m := range masks {
			for _, azimuth := range []int64{m.From, m.To, (m.From + 359999) % 360000, (m.To + 1) % 360000, 0, 359999} {
				for _, altitude := range []int64{m.Low, m.High, max(m.Low-1, 0), min(m.High+1, 90000)} {
					checkMask(t, masks, azimuth, altitude, plainMask(masks, azimuth, altitude))
				}
			}
		}
		step := []int64{10000, 90000, 45000, 77777, 10000 + random.Int63n(80001)}[i%5]
		spots, sum := plainSpots(step), int64(0)
		for _, at := range spots {
			sum += plainMask(masks, at[0], at[1])
		}
		checkResult(t, fmt.Sprintf("MaskMean(%v, %d)", masks, step), coded(impl.MaskMean(masks, step)), coded(sum/int64(len(spots)), impl.OK))
	}
}

func TestP13MasksNeverMakeAnythingBrighter(t *testing.T) {
	random := rand.New(rand.NewSource(127))
	for range 2000 {
		masks, azimuth, altitude, step := randomMasks(random, 1+random.Intn(8)), randomRight(random), sizeOf(randomDeclination(random)), 30000+random.Int63n(60001)
		before, mean := int64(1000), int64(1000)
		for i := range len(masks) + 1 {
			call := fmt.Sprintf("the first %d of the masks %v", i, masks)
			level, code := impl.MaskAt(masks[:i], azimuth, altitude)
			all, codeOfAll := impl.MaskMean(masks[:i], step)
			if code != impl.OK || codeOfAll != impl.OK || level < 0 || level > before || all < 0 || all > mean {
				t.Fatalf("%s: got %d, %d behind %d at %d, %d, and the mean %d, %d behind %d", call, level, code, before, azimuth, altitude, all, codeOfAll, mean)
			}
			before, mean = level, all
		}
	}
}

func TestP13MaskMeanCases(t *testing.T) {
	cases := []struct {
		masks      []impl.Mask
		step, want int64
	}{
		{nil, 10000, 1000}, {nil, 90000, 1000}, {[]impl.Mask{}, 12345, 1000}, {[]impl.Mask{around(0, 359999, 500)}, 10000, 500}, {[]impl.Mask{around(0, 359999, 0)}, 90000, 0}, {[]impl.Mask{around(0, 359999, 500), around(0, 359999, 500)}, 90000, 250},
		// Of the 8 spots for the step 90000, these dim 2, 1 and 3; those for the step 10000 are 360.
		{[]impl.Mask{around(350000, 10000, 500)}, 90000, 875}, {[]impl.Mask{mask(350000, 10000, 0, 89999, 500)}, 90000, 937}, {[]impl.Mask{around(350000, 10000, 500), mask(0, 90000, 0, 30000, 500)}, 90000, 781}, {[]impl.Mask{around(350000, 10000, 0)}, 10000, 916}, {[]impl.Mask{around(350001, 9999, 0)}, 10000, 972}, {[]impl.Mask{around(359999, 0, 0)}, 90000, 750}, {[]impl.Mask{around(270000, 89999, 0)}, 90000, 500}, {[]impl.Mask{around(10000, 350000, 0)}, 10000, 27}, {[]impl.Mask{mask(0, 0, 90000, 90000, 999)}, 10000, 999}, {[]impl.Mask{mask(1, 9999, 0, 90000, 0)}, 10000, 1000},
	}
	for _, c := range cases {
		checkResult(t, fmt.Sprintf("MaskMean(%v, %d)", c.masks, c.step), coded(impl.MaskMean(c.masks, c.step)), coded(c.want, impl.OK))
	}
}

// Promise 13: texts.

var curveTexts = textForm[[]impl.Knot]{"Curve", impl.CurveText, impl.ReadCurve}

func TestP13CurveIsReadBack(t *testing.T) {
	cases := []struct {
		knots []impl.Knot
		text  string
	}{
		{curve(0, 0, 1000, 1000), "0:0 1000:1000"}, {curve(0, 0, 500, 100, 1000, 1000), "0:0 500:100 1000:1000"}, {curve(0, 0, 1000, 0), "0:0 1000:0"}, {curve(0, 1000, 1000, 1000), "0:1000 1000:1000"}, {curve(0, 1, 1, 2, 999, 3, 1000, 4), "0:1 1:2 999:3 1000:4"},
		{evenCurve(16), "0:0 66:66 133:133 200:200 266:266 333:333 400:400 466:466 533:533 600:600 666:666 733:733 800:800 866:866 933:933 1000:1000"},
	}
	for _, c := range cases {
		curveTexts.checkReadBack(t, c.knots, c.text)
	}
	for _, knots := range validCurves() {
		words := []string{}
		for _, k := range knots {
			words = append(words, fmt.Sprintf("%d:%d", k.In, k.Out))
		}
		curveTexts.checkReadBack(t, knots, strings.Join(words, " "))
	}
}

func TestP13CurveTextRefuses(t *testing.T) { curveTexts.checkNoTexts(t, invalidCurves()) }

func TestP13ReadCurveRefuses(t *testing.T) {
	texts := []string{
		"0:0", "1000:1000", "0:0 999:1000", "1:0 1000:1000", "0:0 1001:1000", "0:0 1000:1001", "-1:0 1000:1000", "0:-1 1000:1000", "0:1 1000:0", "0:0 0:0 1000:1000", "0:0 500:5 500:5 1000:1000", "0:0 500:5 400:5 1000:1000", "0:0 500:5 600:4 1000:1000", "1000:1000 0:0",
		"0:0" + strings.Repeat(" 1:1", 14) + " 1000:1000", "0:0 1:1 2:2 3:3 4:4 5:5 6:6 7:7 8:8 9:9 10:10 11:11 12:12 13:13 14:14 15:15 1000:1000",
		" 0:0 1000:1000", "0:0 1000:1000 ", "0:0  1000:1000", "0:01000:1000", "0: 0 1000:1000", "0 :0 1000:1000", "0:0\t1000:1000", "0:0 1000:1000\n", "0:0\n1000:1000", "0:0\u00a01000:1000", "0:0,1000:1000", "0:0 1000:1000,", "- 0:0 1000:1000", "a 0:0 1000:1000", "0:0 a 1000:1000",
		"0::0 1000:1000", ":0:0 1000:1000", "0:0: 1000:1000", "0:0 1000::1000", "0:0 :1000", "0:0 1000:", "0:0 :", ": 1000:1000", "0 1000:1000", "0:0 1000", "0 1000", "0:0:1000:1000", "0:0 1000:1000:1000", "0-0 1000-1000", "0,0 1000,1000", "0;0 1000;1000", "0.0 1000.1000", "0=0 1000=1000", "00 10001000", "0\uff1a0 1000:1000",
		"0:" + strings.Repeat("0", 10000) + " 1000:1000", "0:0 " + strings.Repeat("1", 10000) + ":1000", "0:0" + strings.Repeat(" 500:500", 10000) + " 1000:1000", "0" + strings.Repeat(":0", 10000) + " 1000:1000",
	}
	for _, word := range append(noNumbers(), "+0", "0.0", "1001", "-1", "0x0", "\u0660", "1 ", "18446744073709551616", "4294967296") {
		texts = append(texts, word+":0 1000:1000", "0:"+word+" 1000:1000", "0:0 "+word+":1000 1000:1000", "0:0 500:"+word+" 1000:1000", "0:0 "+word+":1000", "0:0 1000:"+word)
	}
	curveTexts.checkNotRead(t, append(texts, edgeTexts()...))
}

func TestP13ReadCurveRefusesChangedBytes(t *testing.T) {
	curveTexts.checkChanged(t, "0:12 345:345 500:678 999:1000 1000:1000")
	curveTexts.checkNoParts(t, "0:12 345:345 500:678 999:1000 1000:1000")
}
