package tests

import (
	"cmp"
	"fmt"
	"math/rand"
	"reflect"
	"runtime"
	"slices"
	"strings"
	"sync"
	"testing"
	"time"

	"loop.example/g00955/impl"
)

func projector(name string, azimuth, altitude, field, power int64) impl.Projector {
	return impl.Projector{Name: name, Azimuth: azimuth, Altitude: altitude, Field: field, Power: power}
}

// upwards returns a projector whose axis goes straight up.
func upwards(name string, field, power int64) impl.Projector {
	return projector(name, 0, 90000, field, power)
}

// downwards returns a projector that reaches no direction of the dome.
func downwards(name string) impl.Projector { return projector(name, 0, -90000, 45000, 1000) }

// forwards returns a projector that reaches the half of the dome around an azimuth.
func forwards(name string, azimuth int64) impl.Projector {
	return projector(name, azimuth, 0, 90000, 500)
}

// named returns the projectors with strictly increasing names.
func named(list ...impl.Projector) []impl.Projector {
	for i := range list {
		list[i].Name = numberedName(i)
	}
	return list
}

// equalProjectors returns projectors that differ by their names only.
func equalProjectors(count int) []impl.Projector {
	return named(slices.Repeat([]impl.Projector{upwards("", 90000, 700)}, count)...)
}

// validProjectors have fields at the ends of the ranges and between them.
func validProjectors() []impl.Projector {
	list := []impl.Projector{projector("abcdefghij", 359999, 90000, 120000, 1000), projector("z9", 0, -90000, 5000, 1), projector("a", 12345, 6789, 54321, 987)}
	for _, n := range edgeTurns() {
		list = append(list, projector("a", n, 0, 60000, 500))
	}
	for _, n := range []int64{-90000, -89999, -45000, -1, 0, 1, 30000, 89999, 90000} {
		list = append(list, projector("a", 0, n, 60000, 500))
	}
	for _, n := range []int64{5000, 5001, 60000, 119999, 120000} {
		list = append(list, projector("a", 0, 0, n, 500))
	}
	for _, n := range []int64{1, 2, 999, 1000} {
		list = append(list, projector("a", 0, 0, 60000, n))
	}
	return list
}

// invalidProjectors have one field that no projector has.
func invalidProjectors() []impl.Projector {
	list := []impl.Projector{{}, {Name: "a"}, projector("a", -1, 90001, 4999, 0)}
	for _, name := range invalidNames() {
		list = append(list, projector(name, 0, 0, 60000, 500))
	}
	for _, n := range noTurns() {
		list = append(list, projector("a", n, 0, 60000, 500))
	}
	for _, n := range noElevations() {
		list = append(list, projector("a", 0, n, 60000, 500))
	}
	for _, n := range []int64{4999, 120001, 0, -1, -60000, 180000, 360000, minInt, maxInt} {
		list = append(list, projector("a", 0, 0, n, 500))
	}
	for _, n := range []int64{0, 1001, -1, -500, 100000, minInt, maxInt} {
		list = append(list, projector("a", 0, 0, 60000, n))
	}
	return list
}

// validProjectorLists are lists of none, of one and of several projectors, up to MaxProjectors.
func validProjectorLists() [][]impl.Projector {
	lists := [][]impl.Projector{
		nil, {}, {upwards("a", 90000, 500)}, {upwards("a", 45000, 1)}, {downwards("a")}, {downwards("a"), downwards("b")}, {upwards("a", 90000, 500), upwards("b", 45000, 1000)},
		{forwards("a", 0), forwards("b", 120000), forwards("c", 240000)}, {upwards("a", 5000, 1), downwards("b"), forwards("c", 359999), upwards("d", 120000, 1000)},
		equalProjectors(2), equalProjectors(3), equalProjectors(5), equalProjectors(6),
	}
	random := rand.New(rand.NewSource(82))
	for count := range 7 {
		lists = append(lists, randomProjectors(random, count))
	}
	return lists
}

// invalidProjectorLists are lists that are too long, in the wrong order, or that have a projector that is none.
func invalidProjectorLists() [][]impl.Projector {
	a, b, c := forwards("a", 0), forwards("b", 90000), forwards("c", 180000)
	lists := [][]impl.Projector{
		equalProjectors(7), equalProjectors(8), equalProjectors(100), make([]impl.Projector, 1), make([]impl.Projector, 6), make([]impl.Projector, 7),
		{a, a}, {b, a}, {a, c, b}, {b, a, c}, {a, b, b}, {a, a, b}, {a, b, a}, {c, b, a}, {a, upwards("a", 45000, 1)}, {upwards("ab", 45000, 1), a}, {upwards("s9", 45000, 1), upwards("s10", 45000, 1)},
		append(equalProjectors(5), equalProjectors(1)...), append(equalProjectors(5), equalProjectors(5)[4]),
	}
	for _, p := range invalidProjectors() {
		lists = append(lists, []impl.Projector{p}, []impl.Projector{p, b}, []impl.Projector{upwards("0", 45000, 1), p}, []impl.Projector{a, p}, []impl.Projector{upwards("a0", 45000, 1), b, p})
	}
	return lists
}

// randomProjectors returns projectors whose directions, fields and powers are often at an end of their range or whole.
func randomProjectors(random *rand.Rand, count int) []impl.Projector {
	list := []impl.Projector{}
	for range count {
		field := []int64{5000, 120000, 5000 + 1000*random.Int63n(116), 5000 + random.Int63n(115001), 30000 + random.Int63n(60001)}[random.Intn(5)]
		power := []int64{1, 1000, 1 + random.Int63n(1000), 500}[random.Intn(4)]
		list = append(list, projector("", randomRight(random), randomDeclination(random), field, power))
	}
	return named(list...)
}

// litCalls are those of the functions of projectors and a direction.
func litCalls(list []impl.Projector, azimuth, altitude int64) []horizonCall {
	arguments := fmt.Sprintf("(%.300q, %d, %d)", fmt.Sprint(list), azimuth, altitude)
	return []horizonCall{
		{"WeightsAt" + arguments, codedMany(impl.WeightsAt(list, azimuth, altitude))},
		{"BrightnessAt" + arguments, coded(impl.BrightnessAt(list, azimuth, altitude))},
	}
}

// stepCalls are those of the functions of projectors and a step.
func stepCalls(list []impl.Projector, step, budget int64) []horizonCall {
	arguments := fmt.Sprintf("(%.300q, %d, %d)", fmt.Sprint(list), step, budget)
	return []horizonCall{
		{"DarkSpots" + arguments, codedMany(impl.DarkSpots(list, step))},
		{"CoverageShare" + arguments, coded(impl.CoverageShare(list, step))},
		{"OverlapShare" + arguments, coded(impl.OverlapShare(list, step))},
		{"BrightnessRange" + arguments, codedBoth(impl.BrightnessRange(list, step))},
		{"FewestProjectors" + arguments, codedMany(impl.FewestProjectors(list, step, budget))},
	}
}

// projectorCalls are those of all functions of projectors that return a code.
func projectorCalls(list []impl.Projector, azimuth, altitude, step, budget int64) []horizonCall {
	return append(append(litCalls(list, azimuth, altitude), stepCalls(list, step, budget)...),
		horizonCall{fmt.Sprintf("EvenPowers(%.300q)", fmt.Sprint(list)), codedMany(impl.EvenPowers(list))})
}

// noSteps are numbers that are not from MinStep to MaxStep.
func noSteps() []int64 {
	return []int64{9999, 90001, 0, 1, -1, -10000, -90000, 180000, 360000, minInt, minInt + 1, maxInt}
}

// noBudgets are numbers that are not from 1 to MaxBudget.
func noBudgets() []int64 { return []int64{0, -1, 20001, -20000, 1 << 32, minInt, maxInt} }

// Promise 1, for the functions of chapter 10.

func TestP1ProjectorsReturnEqualResults(t *testing.T) {
	numbers := slices.Concat(edgeNumbers(), edgeTurns(), noElevations(), noSteps(), noBudgets(), []int64{10000, 50000, 120000, 120001, 4999, 5000, 1001})
	for i, list := range append(validProjectorLists(), invalidProjectorLists()...) {
		for k := range 8 {
			n, o, p := numbers[(5*i+11*k)%len(numbers)], numbers[(3*i+7*k)%len(numbers)], numbers[(i+13*k)%len(numbers)]
			checkRepeats(t, fmt.Sprintf("functions of the projectors %v and the numbers %d, %d, %d", list, n, o, p), func() []any {
				return append(resultsOf(slices.Concat(projectorCalls(list, n, o, 90000, p), litCalls(list, 0, n), litCalls(list, o, 45000), stepCalls(list, p, 10), stepCalls(list, 45000, n))...), impl.ValidProjectors(list))
			})
		}
	}
	for _, n := range numbers {
		checkRepeats(t, fmt.Sprintf("functions of a projector and the number %d", n), func() []any {
			results := []any{}
			for _, p := range append(validProjectors(), projector("a", n, 0, 60000, 500), projector("a", 0, n, 60000, 500), projector("a", 0, 0, n, 500), projector("a", 0, 0, 60000, n), projector("a", n, n, n, n)) {
				results = append(results, coded(impl.RawWeight(p, n, 0)), coded(impl.RawWeight(p, 0, n)), coded(impl.RawWeight(p, n, n)), impl.ProjectorText(p), impl.ValidProjectors([]impl.Projector{p}))
			}
			return results
		})
	}
	for _, s := range edgeTexts() {
		checkRepeats(t, fmt.Sprintf("functions of the text %.40q", s), func() []any {
			p, ok := impl.ReadProjector(s)
			q := upwards(s, 60000, 500)
			return []any{p, ok, impl.ProjectorText(q), coded(impl.RawWeight(q, 0, 0)), impl.ValidProjectors([]impl.Projector{q})}
		})
	}
}

func TestP1ProjectorsKeepTheirArguments(t *testing.T) {
	for _, list := range append(validProjectorLists(), invalidProjectorLists()...) {
		for _, rest := range [][]impl.Projector{{forwards("x", 7), {}, forwards("y", 7)}, slices.Repeat([]impl.Projector{forwards("z", 7)}, 10)} {
			checkListKept(t, fmt.Sprintf("functions of the projectors %v", list), list, rest, func(l []impl.Projector) {
				impl.ValidProjectors(l)
				projectorCalls(l, 12345, 67890, 30000, 100)
				projectorCalls(l, -1, 0, 0, 0)
			})
		}
	}
}

// withoutCode returns a list whose code has to be OK.
func withoutCode[T any](t *testing.T, list []T, code int64) []T {
	t.Helper()
	checkResult(t, "the code", code, impl.OK)
	return list
}

func TestP1ProjectorListsHaveMemoryOfTheirOwn(t *testing.T) {
	for _, list := range validProjectorLists() {
		whole := slices.Concat(list, []impl.Projector{forwards("x", 7), forwards("y", 7)})
		roomy, before := whole[:len(list)], slices.Clone(whole)
		kept := func() bool { return slices.Equal(whole, before) }
		if weights, code := impl.WeightsAt(roomy, 0, 60000); code == impl.OK {
			checkResult(t, "the number of shares", len(weights), len(list))
			checkNewNumbers(t, "WeightsAt", func() []int64 { return withoutCodeOf(t, impl.WeightsAt, roomy, 0, 60000) }, kept)
		}
		for _, step := range []int64{10000, 90000} {
			checkNewNumbers(t, "FewestProjectors", func() []int64 {
				few, code := impl.FewestProjectors(roomy, step, 100)
				return withoutCode(t, few, code)
			}, kept)
			checkNewLines(t, "DarkSpots", func() [][]int64 {
				spots, code := impl.DarkSpots(roomy, step)
				return withoutCode(t, spots, code)
			}, kept)
		}
		first, _ := impl.EvenPowers(roomy)
		second, code := impl.EvenPowers(roomy)
		want := slices.Clone(withoutCode(t, second, code))
		for i := range first[:cap(first)] {
			first[:cap(first)][i] = forwards("over", 8)
		}
		if !slices.Equal(second, want) || !kept() {
			t.Errorf("EvenPowers(%v): its result shares memory with its argument or with another result", list)
		}
		for i := range whole {
			whole[i] = forwards("over", 8)
		}
		if !slices.Equal(second, want) {
			t.Errorf("EvenPowers(%v): its argument shares memory with its result", list)
		}
	}
}

func withoutCodeOf(t *testing.T, call func([]impl.Projector, int64, int64) ([]int64, int64), list []impl.Projector, azimuth, altitude int64) []int64 {
	t.Helper()
	numbers, code := call(list, azimuth, altitude)
	return withoutCode(t, numbers, code)
}

// Promise 11: valid projectors.

func TestP11ProjectorConstants(t *testing.T) {
	constants := []int64{impl.MaxProjectors, impl.MinField, impl.MaxField, impl.FullWeight, impl.MinStep, impl.MaxStep}
	checkResult(t, "constants", constants, []int64{6, 5000, 120000, 1000, 10000, 90000})
}

func TestP11ValidProjectors(t *testing.T) {
	for _, list := range validProjectorLists() {
		checkResult(t, fmt.Sprintf("ValidProjectors(%v)", list), impl.ValidProjectors(list), true)
	}
	for _, p := range validProjectors() {
		checkResult(t, fmt.Sprintf("ValidProjectors of %v", p), impl.ValidProjectors([]impl.Projector{p}), true)
		first := p
		first.Name = "0"
		checkResult(t, fmt.Sprintf("ValidProjectors behind %v", first), impl.ValidProjectors([]impl.Projector{first, p}), false)
		first.Name = "a"
		p.Name = "a0"
		checkResult(t, fmt.Sprintf("ValidProjectors of %v, %v", first, p), impl.ValidProjectors([]impl.Projector{first, p}), true)
	}
	for _, list := range invalidProjectorLists() {
		checkResult(t, fmt.Sprintf("ValidProjectors(%.300q)", fmt.Sprint(list)), impl.ValidProjectors(list), false)
	}
}

func TestP11InvalidProjectorsAreRefusedFirst(t *testing.T) {
	for _, list := range invalidProjectorLists() {
		for _, n := range [][4]int64{{0, 0, 10000, 1}, {359999, 90000, 90000, 20000}, {-1, 0, 9999, 0}, {0, 90001, 90001, 20001}, {minInt, maxInt, minInt, maxInt}} {
			checkRefused(t, projectorCalls(list, n[0], n[1], n[2], n[3]), impl.ErrInvalid)
		}
	}
	for _, p := range invalidProjectors() {
		for _, n := range [][2]int64{{0, 0}, {359999, 90000}, {-1, 0}, {0, -1}, {0, 90001}, {minInt, maxInt}} {
			checkResult(t, fmt.Sprintf("RawWeight(%q, %v)", fmt.Sprint(p), n), coded(impl.RawWeight(p, n[0], n[1])), coded(0, impl.ErrInvalid))
		}
	}
}

func TestP11OtherDirectionsAreRefused(t *testing.T) {
	for _, n := range append(notUp(), [2]int64{-1, 45000}, [2]int64{360000, 45000}, [2]int64{0, -1}, [2]int64{0, 90001}) {
		for _, p := range validProjectors() {
			checkResult(t, fmt.Sprintf("RawWeight(%v, %v)", p, n), coded(impl.RawWeight(p, n[0], n[1])), coded(0, impl.ErrRange))
		}
		// Also where no projector reaches anything, which comes after it.
		for _, list := range validProjectorLists() {
			checkRefused(t, litCalls(list, n[0], n[1]), impl.ErrRange)
		}
	}
}

func TestP11OtherStepsAndBudgetsAreRefused(t *testing.T) {
	for _, list := range validProjectorLists() {
		for _, step := range noSteps() {
			for _, budget := range []int64{1, 20000, 0, 20001} {
				checkRefused(t, stepCalls(list, step, budget), impl.ErrRange)
			}
		}
		for _, budget := range noBudgets() {
			for _, step := range []int64{10000, 77777, 90000} {
				call := fmt.Sprintf("FewestProjectors(%v, %d, %d)", list, step, budget)
				checkResult(t, call, codedMany(impl.FewestProjectors(list, step, budget)), codedMany[int64](nil, impl.ErrRange))
			}
		}
	}
}

// Promise 11: weights.

func TestP11RawWeightCases(t *testing.T) {
	cases := []struct {
		p                       impl.Projector
		azimuth, altitude, want int64
	}{
		// On the axis, whatever the field is.
		{forwards("a", 0), 0, 0, 1001}, {projector("a", 123000, 45000, 5000, 1), 123000, 45000, 1001}, {projector("a", 359999, 0, 120000, 1000), 359999, 0, 1001}, {projector("a", 12345, 54321, 77777, 9), 12345, 54321, 1001},
		// At exactly the field, just within it, and just beyond it.
		{projector("a", 0, 0, 45000, 500), 45000, 0, 1}, {projector("a", 0, 0, 45001, 500), 45000, 0, 1}, {projector("a", 0, 0, 44999, 500), 45000, 0, 0}, {projector("a", 0, 0, 45045, 500), 45000, 0, 1}, {projector("a", 0, 0, 45046, 500), 45000, 0, 2},
		{projector("a", 0, 0, 5000, 500), 5000, 0, 1}, {projector("a", 0, 0, 5000, 500), 355000, 0, 1}, {projector("a", 0, 0, 5000, 500), 0, 5000, 1}, {projector("a", 0, 0, 5000, 500), 6000, 0, 0}, {projector("a", 0, 0, 5000, 500), 354000, 0, 0}, {projector("a", 0, 0, 5000, 500), 0, 6000, 0},
		{projector("a", 0, 0, 5001, 500), 5000, 0, 1}, {projector("a", 0, 0, 5005, 500), 5000, 0, 1}, {projector("a", 0, 0, 5006, 500), 5000, 0, 2}, {projector("a", 180000, 0, 120000, 500), 60000, 0, 1}, {projector("a", 180000, 0, 119999, 500), 60000, 0, 0}, {projector("a", 180000, 0, 120000, 500), 300000, 0, 1}, {projector("a", 180000, 0, 120000, 500), 301000, 0, 0},
		{projector("a", 0, 0, 90000, 500), 0, 90000, 1}, {projector("a", 0, 0, 89999, 500), 0, 90000, 0}, {projector("a", 0, 0, 120000, 500), 180000, 60000, 1}, {projector("a", 0, 0, 120000, 500), 180000, 59000, 0},
		// Between them, quotients are rounded down.
		{projector("a", 0, 0, 60000, 500), 30000, 0, 501}, {projector("a", 0, 0, 60000, 500), 0, 20000, 667}, {projector("a", 0, 0, 60000, 500), 340000, 0, 667}, {projector("a", 0, 0, 60000, 500), 40000, 0, 334}, {projector("a", 90000, 0, 120000, 500), 0, 0, 251}, {projector("a", 0, 0, 7000, 500), 6000, 0, 143},
		// An axis straight up, whose azimuth does not matter.
		{upwards("a", 90000, 500), 0, 45000, 501}, {upwards("a", 90000, 500), 271828, 90000, 1001}, {upwards("a", 90000, 500), 359999, 0, 1}, {upwards("a", 89999, 500), 0, 0, 0}, {projector("a", 222222, 90000, 60000, 1), 90000, 60000, 501}, {projector("a", 222222, 90000, 60000, 1), 180000, 30000, 1}, {projector("a", 222222, 90000, 60000, 1), 180000, 29000, 0},
		// An axis below the horizon.
		{projector("a", 0, -30000, 60000, 500), 0, 0, 501}, {projector("a", 0, -30000, 60000, 500), 0, 30000, 1}, {projector("a", 0, -30000, 60000, 500), 0, 31000, 0}, {projector("a", 0, -30000, 60000, 500), 180000, 0, 0}, {projector("a", 0, -90000, 120000, 500), 5000, 0, 251}, {projector("a", 0, -90000, 120000, 500), 77000, 30000, 1}, {projector("a", 0, -90000, 120000, 500), 0, 31000, 0},
		{downwards("a"), 0, 0, 0}, {downwards("a"), 359999, 90000, 0}, {projector("a", 0, -90000, 90000, 500), 12000, 0, 1}, {projector("a", 0, -90000, 89999, 500), 12000, 0, 0}, {projector("a", 200000, -5000, 5000, 500), 200000, 0, 1}, {projector("a", 200000, -6000, 5000, 500), 200000, 0, 0},
		// On both sides of the azimuth 0.
		{forwards("a", 359000), 1000, 0, 978}, {forwards("a", 1000), 359000, 0, 978}, {forwards("a", 0), 359000, 0, 989}, {forwards("a", 0), 180000, 0, 0}, {forwards("a", 0), 180000, 90000, 1},
	}
	for _, c := range cases {
		checkResult(t, fmt.Sprintf("RawWeight(%v, %d, %d)", c.p, c.azimuth, c.altitude), coded(impl.RawWeight(c.p, c.azimuth, c.altitude)), coded(c.want, impl.OK))
	}
}

// plainWeight follows the text of the document.
func plainWeight(sines []int64, p impl.Projector, azimuth, altitude int64) int64 {
	d := plainApart(sines, p.Azimuth, p.Altitude, azimuth, altitude)
	if d > p.Field {
		return 0
	}
	return 1000*(p.Field-d)/p.Field + 1
}

func plainWeights(sines []int64, list []impl.Projector, azimuth, altitude int64) []int64 {
	weights := []int64{}
	for _, p := range list {
		weights = append(weights, plainWeight(sines, p, azimuth, altitude))
	}
	return weights
}

// plainShares gives what is left to one projector after the other, each time to the first one with the greatest rest.
func plainShares(weights []int64) codedList[int64] {
	sum, left := int64(0), int64(1000)
	for _, w := range weights {
		sum += w
	}
	if sum == 0 {
		return codedMany[int64](nil, impl.ErrNotFound)
	}
	shares, rests := []int64{}, []int64{}
	for _, w := range weights {
		shares, rests = append(shares, 1000*w/sum), append(rests, 1000*w%sum)
		left -= 1000 * w / sum
	}
	for range left {
		at := slices.Index(rests, slices.Max(rests))
		shares[at]++
		rests[at] = -1
	}
	return codedMany(shares, impl.OK)
}

func plainBrightness(list []impl.Projector, weights []int64) codedNumber {
	shares, bright := plainShares(weights), int64(0)
	for i, share := range shares.list {
		bright += share * list[i].Power
	}
	return coded(bright/1000, shares.code)
}

func TestP11RawWeightsEverywhere(t *testing.T) {
	sines, random := allSines(), rand.New(rand.NewSource(83))
	lit := 0
	for i, n := range upDirections(random, 2000) {
		for _, p := range append(randomProjectors(random, 4), validProjectors()[i%len(validProjectors())]) {
			want := plainWeight(sines, p, n[0], n[1])
			checkResult(t, fmt.Sprintf("RawWeight(%v, %v)", p, n), coded(impl.RawWeight(p, n[0], n[1])), coded(want, impl.OK))
			if want > 0 {
				lit++
			}
		}
	}
	if lit < 2000 || lit > 9000 {
		t.Errorf("%d weights are greater than 0", lit)
	}
}

// fieldOf returns the angle between the axis of a projector and a direction.
func fieldOf(t *testing.T, p impl.Projector, azimuth, altitude int64) int64 {
	t.Helper()
	return apart(t, p.Azimuth, p.Altitude, azimuth, altitude)
}

func TestP11FieldsEndExactly(t *testing.T) {
	random, checked := rand.New(rand.NewSource(84)), 0
	for range 20000 {
		p, azimuth, altitude := randomProjectors(random, 1)[0], randomRight(random), sizeOf(randomDeclination(random))
		d := fieldOf(t, p, azimuth, altitude)
		if d <= 5000 || d >= 120000 {
			continue
		}
		checked++
		for _, c := range [][2]int64{{d - 1, 0}, {d, 1}, {d + 1, 1}, {d + d/999 + 1, 2}} {
			if p.Field = c[0]; p.Field <= 120000 {
				checkResult(t, fmt.Sprintf("RawWeight(%v, %d, %d)", p, azimuth, altitude), coded(impl.RawWeight(p, azimuth, altitude)), coded(c[1], impl.OK))
			}
		}
	}
	if checked < 5000 {
		t.Errorf("only %d fields are checked", checked)
	}
}

// Promise 11: shares.

func TestP11WeightsAtCases(t *testing.T) {
	full, half, edge, none := upwards("", 60000, 1), projector("", 0, 60000, 60000, 1), projector("", 90000, 30000, 60000, 1), projector("", 180000, 29000, 60000, 1)
	cases := []struct {
		list []impl.Projector
		want []int64
	}{
		// In the zenith, the weights are 1001, 501, 1 and 0.
		{named(full), []int64{1000}}, {named(half), []int64{1000}}, {named(edge), []int64{1000}},
		{named(full, full), []int64{500, 500}}, {named(full, full, full), []int64{334, 333, 333}}, {named(edge, edge, edge), []int64{334, 333, 333}}, {equalProjectors(4), []int64{250, 250, 250, 250}}, {equalProjectors(5), []int64{200, 200, 200, 200, 200}}, {equalProjectors(6), []int64{167, 167, 167, 167, 166, 166}},
		// The rests of the three are 2, 501 and 1000 of 1503, and just one is left.
		{named(full, half, edge), []int64{666, 333, 1}}, {named(edge, half, full), []int64{1, 333, 666}}, {named(half, edge, full), []int64{333, 1, 666}},
		// The weights of 1001 and 501 have the rests 732 and 768 of 1502; the greater rest is that of the second one.
		{named(full, half), []int64{666, 334}}, {named(half, full), []int64{334, 666}}, {named(full, edge), []int64{999, 1}}, {named(edge, full), []int64{1, 999}}, {named(half, edge), []int64{998, 2}},
		{named(full, edge, edge), []int64{998, 1, 1}}, {named(edge, full, edge), []int64{1, 998, 1}}, {named(full, half, half), []int64{500, 250, 250}}, {named(half, half, full), []int64{250, 250, 500}}, {named(full, full, half), []int64{400, 400, 200}}, {named(full, full, edge), []int64{500, 500, 0}}, {named(edge, full, full), []int64{0, 500, 500}}, {named(full, full, edge, edge), []int64{500, 500, 0, 0}},
		{named(full, half, half, edge, full, full), []int64{250, 125, 125, 0, 250, 250}}, {named(half, half, half, full, full, full), []int64{112, 111, 111, 222, 222, 222}}, {named(full, half, edge, full, half, edge), []int64{333, 167, 0, 333, 167, 0}}, {named(edge, edge, edge, edge, edge, full), []int64{1, 1, 1, 1, 1, 995}},
		// Projectors that do not reach the zenith have no share, and none of the rest.
		{named(none, full), []int64{0, 1000}}, {named(full, none), []int64{1000, 0}}, {named(none, full, none, full, none, full), []int64{0, 334, 0, 333, 0, 333}}, {named(full, none, full, none, full, none), []int64{334, 0, 333, 0, 333, 0}}, {named(none, none, none, none, none, edge), []int64{0, 0, 0, 0, 0, 1000}},
		{named(none, full, half, edge), []int64{0, 666, 333, 1}}, {named(full, none, half, none, edge), []int64{666, 0, 333, 0, 1}},
	}
	for _, c := range cases {
		checkResult(t, fmt.Sprintf("WeightsAt(%v, 0, 90000)", c.list), codedMany(impl.WeightsAt(c.list, 0, 90000)), codedMany(c.want, impl.OK))
	}
	for _, list := range [][]impl.Projector{nil, {}, named(none), named(none, none, none), named(none, none, none, none, none, none), {downwards("a")}} {
		checkRefused(t, litCalls(list, 0, 90000), impl.ErrNotFound)
	}
}

func TestP11OneProjectorHasTheWholeShare(t *testing.T) {
	random := rand.New(rand.NewSource(85))
	for _, n := range upDirections(random, 1000) {
		p := randomProjectors(random, 1)[0]
		call := fmt.Sprintf("(%v, %v)", p, n)
		if fieldOf(t, p, n[0], n[1]) > p.Field {
			checkRefused(t, litCalls([]impl.Projector{p}, n[0], n[1]), impl.ErrNotFound)
			continue
		}
		checkResult(t, "WeightsAt"+call, codedMany(impl.WeightsAt([]impl.Projector{p}, n[0], n[1])), codedMany([]int64{1000}, impl.OK))
		checkResult(t, "BrightnessAt"+call, coded(impl.BrightnessAt([]impl.Projector{p}, n[0], n[1])), coded(p.Power, impl.OK))
	}
}

// rawWeights returns the weights of all projectors at a direction.
func rawWeights(t *testing.T, list []impl.Projector, azimuth, altitude int64) []int64 {
	t.Helper()
	weights := []int64{}
	for _, p := range list {
		weight, code := impl.RawWeight(p, azimuth, altitude)
		checkResult(t, fmt.Sprintf("the code of RawWeight(%v, %d, %d)", p, azimuth, altitude), code, impl.OK)
		weights = append(weights, weight)
	}
	return weights
}

// checkShares checks that the shares add up to the full weight just where a weight is greater than 0, that they are in the order of the weights, and that the brightness lies between the powers.
func checkShares(t *testing.T, list []impl.Projector, azimuth, altitude int64) {
	t.Helper()
	weights, call := rawWeights(t, list, azimuth, altitude), fmt.Sprintf("(%v, %d, %d)", list, azimuth, altitude)
	if !slices.ContainsFunc(weights, func(w int64) bool { return w > 0 }) {
		checkRefused(t, litCalls(list, azimuth, altitude), impl.ErrNotFound)
		return
	}
	shares, code := impl.WeightsAt(list, azimuth, altitude)
	if code != impl.OK || len(shares) != len(list) {
		t.Fatalf("WeightsAt%s: got %v, %d", call, shares, code)
	}
	sum, low, high := int64(0), int64(1000), int64(1)
	for i, share := range shares {
		sum += share
		if share < 0 || weights[i] == 0 && share != 0 {
			t.Errorf("WeightsAt%s: got the share %d of the weight %d", call, share, weights[i])
		}
		if weights[i] > 0 {
			low, high = min(low, list[i].Power), max(high, list[i].Power)
		}
		for k := range i {
			if weights[k] >= weights[i] && shares[k] < share {
				t.Errorf("WeightsAt%s: got the shares %d and %d of the weights %d and %d", call, shares[k], share, weights[k], weights[i])
			}
		}
	}
	if sum != impl.FullWeight {
		t.Errorf("WeightsAt%s: got %v, which add up to %d", call, shares, sum)
	}
	if bright, code := impl.BrightnessAt(list, azimuth, altitude); code != impl.OK || bright < low || bright > high {
		t.Errorf("BrightnessAt%s: got %d, %d, want %d to %d", call, bright, code, low, high)
	}
}

func TestP11SharesAddUpToTheFullWeight(t *testing.T) {
	random := rand.New(rand.NewSource(86))
	for _, list := range validProjectorLists() {
		for _, n := range upDirections(random, 50) {
			checkShares(t, list, n[0], n[1])
		}
	}
	for range 3000 {
		list := randomProjectors(random, random.Intn(7))
		checkShares(t, list, randomRight(random), sizeOf(randomDeclination(random)))
		if len(list) > 0 {
			// In the direction of an axis, at least one projector reaches.
			checkShares(t, list, list[0].Azimuth, sizeOf(list[0].Altitude))
		}
	}
}

func TestP11SharesEverywhere(t *testing.T) {
	sines, random := allSines(), rand.New(rand.NewSource(87))
	for _, n := range upDirections(random, 2000) {
		list := randomProjectors(random, 1+random.Intn(6))
		weights, call := plainWeights(sines, list, n[0], n[1]), fmt.Sprintf("(%v, %v)", list, n)
		checkResult(t, "WeightsAt"+call, codedMany(impl.WeightsAt(list, n[0], n[1])), plainShares(weights))
		checkResult(t, "BrightnessAt"+call, coded(impl.BrightnessAt(list, n[0], n[1])), plainBrightness(list, weights))
	}
}

func TestP11BrightnessCases(t *testing.T) {
	full, half, edge, none := upwards("", 60000, 1000), projector("", 0, 60000, 60000, 300), projector("", 90000, 30000, 60000, 1), downwards("")
	cases := []struct {
		list []impl.Projector
		want int64
	}{
		{named(full), 1000}, {named(half), 300}, {named(edge), 1}, {named(none, half, none), 300},
		// The sums are 666 * 1000 + 334 * 300, 999 * 1000 + 1, 998 * 300 + 2, and 666 * 1000 + 333 * 300 + 1.
		{named(full, half), 766}, {named(full, edge), 999}, {named(half, edge), 299}, {named(full, half, edge), 765}, {named(edge, half, full), 765}, {named(none, edge, none, half, full, none), 765},
		{equalProjectors(1), 700}, {equalProjectors(2), 700}, {equalProjectors(3), 700}, {equalProjectors(6), 700}, {named(full, full, full), 1000}, {named(edge, edge, edge, edge, edge, edge), 1},
		{named(upwards("", 60000, 1), upwards("", 60000, 2)), 1}, {named(upwards("", 60000, 2), upwards("", 60000, 2), upwards("", 60000, 1)), 1}, {named(upwards("", 60000, 999), upwards("", 60000, 1000)), 999},
	}
	for _, c := range cases {
		checkResult(t, fmt.Sprintf("BrightnessAt(%v, 0, 90000)", c.list), coded(impl.BrightnessAt(c.list, 0, 90000)), coded(c.want, impl.OK))
	}
}

// Promise 11: the whole dome.

// plainSpots goes through all angles.
func plainSpots(step int64) [][]int64 {
	spots := [][]int64{}
	for k := range int64(10) {
		for i := range int64(37) {
			if i*step < 360000 && k*step <= 90000 {
				spots = append(spots, []int64{i * step, k * step})
			}
		}
	}
	return spots
}

func TestP11SpotsOfTheSteps(t *testing.T) {
	cases := []struct {
		step  int64
		spots [][]int64
	}{
		{90000, [][]int64{{0, 0}, {90000, 0}, {180000, 0}, {270000, 0}, {0, 90000}, {90000, 90000}, {180000, 90000}, {270000, 90000}}},
		{70000, [][]int64{{0, 0}, {70000, 0}, {140000, 0}, {210000, 0}, {280000, 0}, {350000, 0}, {0, 70000}, {70000, 70000}, {140000, 70000}, {210000, 70000}, {280000, 70000}, {350000, 70000}}},
		{89999, [][]int64{{0, 0}, {89999, 0}, {179998, 0}, {269997, 0}, {359996, 0}, {0, 89999}, {89999, 89999}, {179998, 89999}, {269997, 89999}, {359996, 89999}}},
		{80000, [][]int64{{0, 0}, {80000, 0}, {160000, 0}, {240000, 0}, {320000, 0}, {0, 80000}, {80000, 80000}, {160000, 80000}, {240000, 80000}, {320000, 80000}}},
	}
	for _, c := range cases {
		for _, list := range [][]impl.Projector{nil, {}, {downwards("a")}, {downwards("a"), downwards("b")}} {
			checkResult(t, fmt.Sprintf("DarkSpots(%v, %d)", list, c.step), codedMany(impl.DarkSpots(list, c.step)), codedMany(c.spots, impl.OK))
		}
	}
	// Steps that divide Circle and 90000, one of them, or neither.
	for _, step := range []int64{10000, 15000, 18000, 30000, 45000, 90000, 40000, 60000, 72000, 10001, 11111, 25000, 44999, 45001, 59999, 77777, 89999} {
		checkResult(t, fmt.Sprintf("DarkSpots(nil, %d)", step), codedMany(impl.DarkSpots(nil, step)), codedMany(plainSpots(step), impl.OK))
	}
	checkResult(t, "the numbers of spots", []int{len(plainSpots(10000)), len(plainSpots(25000)), len(plainSpots(44999))}, []int{360, 60, 27})
}

func TestP11NoProjectors(t *testing.T) {
	for _, list := range [][]impl.Projector{nil, {}} {
		for _, step := range []int64{10000, 11111, 45000, 90000} {
			call := fmt.Sprintf("(no projectors, %d)", step)
			checkResult(t, "CoverageShare"+call, coded(impl.CoverageShare(list, step)), coded(0, impl.OK))
			checkResult(t, "OverlapShare"+call, coded(impl.OverlapShare(list, step)), coded(0, impl.OK))
			checkResult(t, "BrightnessRange"+call, codedBoth(impl.BrightnessRange(list, step)), codedBoth(0, 0, impl.ErrNotFound))
			for _, budget := range []int64{1, 2, 20000} {
				checkResult(t, "FewestProjectors"+call, codedMany(impl.FewestProjectors(list, step, budget)), codedMany[int64](nil, impl.OK))
			}
		}
		checkResult(t, "EvenPowers of none", codedMany(impl.EvenPowers(list)), codedMany[impl.Projector](nil, impl.OK))
		checkRefused(t, append(litCalls(list, 0, 0), litCalls(list, 359999, 90000)...), impl.ErrNotFound)
	}
}

func TestP11WholeDomeCases(t *testing.T) {
	all, edge, up, down := upwards("", 120000, 900), upwards("", 90000, 900), upwards("", 45000, 30), downwards("")
	cases := []struct {
		list              []impl.Projector
		step              int64
		dark              int
		coverage, overlap int64
		low, high, code   int64
	}{
		{named(all), 10000, 0, 1000, 0, 900, 900, impl.OK}, {named(edge), 10000, 0, 1000, 0, 900, 900, impl.OK}, {named(upwards("", 89999, 7)), 10000, 36, 900, 0, 7, 7, impl.OK},
		{named(all, edge), 10000, 0, 1000, 1000, 900, 900, impl.OK}, {named(all, edge, up), 10000, 0, 1000, 1000, 610, 900, impl.OK}, {named(all, up), 10000, 0, 1000, 500, 465, 900, impl.OK}, {named(up), 10000, 180, 500, 0, 30, 30, impl.OK}, {named(up, down, up), 10000, 180, 500, 500, 30, 30, impl.OK},
		{named(down), 10000, 360, 0, 0, 0, 0, impl.ErrNotFound}, {named(down, down, down, down, down, down), 90000, 8, 0, 0, 0, 0, impl.ErrNotFound}, {named(down, up, down), 90000, 4, 500, 0, 30, 30, impl.OK},
		// Each half has both its ends and the zenith.
		{named(forwards("", 0)), 90000, 1, 875, 0, 500, 500, impl.OK}, {named(forwards("", 0), forwards("", 180000)), 90000, 0, 1000, 750, 500, 500, impl.OK}, {named(forwards("", 45000), forwards("", 225000)), 90000, 0, 1000, 500, 500, 500, impl.OK},
		// Narrow projectors reach single spots; 1000 divided by the number of spots is rounded down.
		{named(projector("", 70000, 70000, 5000, 3)), 70000, 11, 83, 0, 3, 3, impl.OK}, {named(projector("", 70000, 70000, 5000, 3), projector("", 350000, 0, 5000, 8)), 70000, 10, 166, 0, 3, 8, impl.OK}, {named(projector("", 0, 0, 5000, 1)), 10000, 359, 2, 0, 1, 1, impl.OK}, {named(upwards("", 5000, 1)), 10000, 324, 100, 0, 1, 1, impl.OK}, {named(upwards("", 5000, 1)), 70000, 12, 0, 0, 0, 0, impl.ErrNotFound},
	}
	for _, c := range cases {
		call := fmt.Sprintf("(%v, %d)", c.list, c.step)
		dark, code := impl.DarkSpots(c.list, c.step)
		checkResult(t, "the number and the code of DarkSpots"+call, coded(int64(len(dark)), code), coded(int64(c.dark), impl.OK))
		checkResult(t, "CoverageShare"+call, coded(impl.CoverageShare(c.list, c.step)), coded(c.coverage, impl.OK))
		checkResult(t, "OverlapShare"+call, coded(impl.OverlapShare(c.list, c.step)), coded(c.overlap, impl.OK))
		checkResult(t, "BrightnessRange"+call, codedBoth(impl.BrightnessRange(c.list, c.step)), codedBoth(c.low, c.high, c.code))
	}
	dark, code := impl.DarkSpots(named(projector("", 70000, 70000, 5000, 3), projector("", 350000, 0, 5000, 8)), 70000)
	checkResult(t, "DarkSpots", codedMany(dark, code), codedMany([][]int64{{0, 0}, {70000, 0}, {140000, 0}, {210000, 0}, {280000, 0}, {0, 70000}, {140000, 70000}, {210000, 70000}, {280000, 70000}, {350000, 70000}}, impl.OK))
}

// plainFewest looks at all choices, of which only the numbers of indices and the indices give the order; it returns the least one that is enough, and its place.
func plainFewest(weights [][]int64, count int) ([]int64, int64) {
	choices := [][]int64{}
	for bits := range 1 << count {
		choices = append(choices, slices.DeleteFunc(allIndices(count), func(i int64) bool { return bits>>i&1 == 0 }))
	}
	slices.SortFunc(choices, func(a, b []int64) int { return cmp.Or(cmp.Compare(len(a), len(b)), slices.Compare(a, b)) })
	lit := func(spot []int64, choice []int64) bool {
		return slices.ContainsFunc(choice, func(i int64) bool { return spot[i] > 0 })
	}
	at := slices.IndexFunc(choices, func(choice []int64) bool {
		return !slices.ContainsFunc(weights, func(spot []int64) bool { return lit(spot, allIndices(count)) && !lit(spot, choice) })
	})
	return choices[at], int64(at + 1)
}

// checkWholeDome compares all functions of a step with the text of the document.
func checkWholeDome(t *testing.T, sines []int64, list []impl.Projector, step int64) {
	t.Helper()
	call, spots, dark, weights := fmt.Sprintf("(%v, %d)", list, step), plainSpots(step), [][]int64{}, [][]int64{}
	twice, bright := 0, []int64{}
	for _, spot := range spots {
		all := plainWeights(sines, list, spot[0], spot[1])
		reaching := slices.DeleteFunc(slices.Clone(all), func(w int64) bool { return w == 0 })
		weights = append(weights, all)
		switch len(reaching) {
		case 0:
			dark = append(dark, spot)
			continue
		case 1:
		default:
			twice++
		}
		bright = append(bright, plainBrightness(list, all).value)
	}
	want := codedBoth(0, 0, impl.ErrNotFound)
	if len(bright) > 0 {
		want = codedBoth(slices.Min(bright), slices.Max(bright), impl.OK)
	}
	checkResult(t, "DarkSpots"+call, codedMany(impl.DarkSpots(list, step)), codedMany(dark, impl.OK))
	checkResult(t, "CoverageShare"+call, coded(impl.CoverageShare(list, step)), coded(int64(1000*len(bright)/len(spots)), impl.OK))
	checkResult(t, "OverlapShare"+call, coded(impl.OverlapShare(list, step)), coded(int64(1000*twice/len(spots)), impl.OK))
	checkResult(t, "BrightnessRange"+call, codedBoth(impl.BrightnessRange(list, step)), want)
	few, nodes := plainFewest(weights, len(list))
	checkFewest(t, list, step, few, nodes)
}

// checkFewest checks a choice that needs a number of nodes.
func checkFewest(t *testing.T, list []impl.Projector, step int64, few []int64, nodes int64) {
	t.Helper()
	for _, budget := range []int64{nodes, nodes + 1, 20000} {
		call := fmt.Sprintf("FewestProjectors(%v, %d, %d)", list, step, budget)
		checkResult(t, call, codedMany(impl.FewestProjectors(list, step, budget)), codedMany(few, impl.OK))
	}
	for _, budget := range []int64{1, nodes / 2, nodes - 1} {
		want := codedMany[int64](nil, impl.ErrFull)
		switch {
		case budget < 1:
			want.code = impl.ErrRange
		case budget >= nodes:
			want = codedMany(few, impl.OK)
		}
		call := fmt.Sprintf("FewestProjectors(%v, %d, %d)", list, step, budget)
		checkResult(t, call, codedMany(impl.FewestProjectors(list, step, budget)), want)
	}
}

func TestP11WholeDomesEverywhere(t *testing.T) {
	sines, random := allSines(), rand.New(rand.NewSource(88))
	steps := []int64{10000, 15000, 22500, 45000, 90000, 11111, 25000, 40000, 44999, 60000, 72000, 77777, 89999}
	for i, list := range validProjectorLists() {
		for _, step := range []int64{steps[i%len(steps)], 90000} {
			checkWholeDome(t, sines, list, step)
		}
	}
	for i := range 130 {
		step := steps[i%len(steps)]
		if i%2 == 0 {
			step = 15000 + random.Int63n(75001)
		}
		checkWholeDome(t, sines, randomProjectors(random, random.Intn(7)), step)
	}
}

func TestP11SpotsAreEitherDarkOrLit(t *testing.T) {
	random := rand.New(rand.NewSource(89))
	for _, list := range append(validProjectorLists(), randomProjectors(random, 4), randomProjectors(random, 6)) {
		for _, step := range []int64{10000, 37000, 90000} {
			dark, code := impl.DarkSpots(list, step)
			checkResult(t, "the code of DarkSpots", code, impl.OK)
			lit := int64(0)
			for _, spot := range plainSpots(step) {
				_, code := impl.WeightsAt(list, spot[0], spot[1])
				isDark := slices.ContainsFunc(dark, func(d []int64) bool { return slices.Equal(d, spot) })
				if isDark != (code == impl.ErrNotFound) || isDark == (code == impl.OK) {
					t.Errorf("DarkSpots(%v, %d): %v is dark: %t, but WeightsAt has the code %d", list, step, spot, isDark, code)
				}
				if code == impl.OK {
					lit++
				}
			}
			all := lit + int64(len(dark))
			checkResult(t, "the number of spots", all, int64(len(plainSpots(step))))
			checkResult(t, fmt.Sprintf("CoverageShare(%v, %d)", list, step), coded(impl.CoverageShare(list, step)), coded(1000*lit/all, impl.OK))
		}
	}
}

// Promise 11: powers.

func TestP11EvenPowers(t *testing.T) {
	a, b, c := projector("a", 1, 2, 5003, 700), projector("b", 359999, -90000, 120000, 20), projector("c", 180000, 90000, 60000, 1000)
	power := func(n int64, list ...impl.Projector) []impl.Projector {
		even := slices.Clone(list)
		for i := range even {
			even[i].Power = n
		}
		return even
	}
	cases := []struct{ list, want []impl.Projector }{
		{[]impl.Projector{a}, []impl.Projector{a}}, {[]impl.Projector{c}, []impl.Projector{c}}, {[]impl.Projector{a, b}, power(20, a, b)}, {[]impl.Projector{b, c}, power(20, b, c)}, {[]impl.Projector{a, c}, power(700, a, c)}, {[]impl.Projector{a, b, c}, power(20, a, b, c)},
		{power(1, a, b, c), power(1, a, b, c)}, {power(1000, a, b, c), power(1000, a, b, c)}, {equalProjectors(6), equalProjectors(6)},
	}
	random := rand.New(rand.NewSource(90))
	for range 200 {
		list, least := randomProjectors(random, 1+random.Intn(6)), int64(1000)
		for _, p := range list {
			least = min(least, p.Power)
		}
		cases = append(cases, struct{ list, want []impl.Projector }{list, power(least, list...)})
	}
	for _, c := range cases {
		before := slices.Clone(c.list)
		even, code := impl.EvenPowers(c.list)
		checkResult(t, fmt.Sprintf("EvenPowers(%v)", before), codedMany(even, code), codedMany(c.want, impl.OK))
		checkResult(t, "the list handed to EvenPowers", c.list, before)
		if low, high, code := impl.BrightnessRange(even, 30000); code == impl.OK && (low != even[0].Power || high != low) {
			t.Errorf("BrightnessRange(%v, 30000): got %d to %d", even, low, high)
		}
	}
}

// Promise 11: the fewest projectors.

func TestP11FewestProjectorsCases(t *testing.T) {
	all, up, down, front, back := upwards("", 120000, 1), upwards("", 45000, 1), downwards(""), forwards("", 0), forwards("", 180000)
	// single reaches just one spot for the step 70000.
	single := func(azimuth int64) impl.Projector { return projector("", azimuth, 0, 5000, 1) }
	cases := []struct {
		list  []impl.Projector
		step  int64
		want  []int64
		nodes int64
	}{
		// None of these is needed, because all of them together leave everything dark.
		{named(down), 10000, nil, 1}, {named(down, down, down, down, down, down), 90000, nil, 1}, {named(up), 70000, []int64{0}, 2}, {named(upwards("", 5000, 1)), 70000, nil, 1},
		{named(all), 10000, []int64{0}, 2}, {named(up), 90000, []int64{0}, 2}, {named(up, all), 10000, []int64{1}, 3}, {named(all, up), 10000, []int64{0}, 2}, {named(down, up, all, up, all), 10000, []int64{2}, 4}, {named(down, down, down, down, down, up), 10000, []int64{5}, 7},
		// Several choices are enough, and the first one is taken.
		{named(all, all), 10000, []int64{0}, 2}, {named(up, down, up), 10000, []int64{0}, 2}, {named(down, up, up), 10000, []int64{1}, 3}, {named(front, back), 10000, []int64{0, 1}, 4}, {named(back, front, back), 10000, []int64{0, 1}, 5}, {named(back, back, front, front), 10000, []int64{0, 2}, 7}, {named(up, front, down, back, front), 10000, []int64{1, 3}, 12}, {named(up, down, front, back, front, back), 10000, []int64{2, 3}, 17}, {named(up, up, up, down, front, back), 10000, []int64{4, 5}, 22},
		// A single projector that is enough comes before the first two that are.
		{named(front, back, all), 10000, []int64{2}, 4}, {named(front, back, front, back, front, all), 10000, []int64{5}, 7},
		// All are needed, or all but one.
		{named(single(0), single(70000), single(140000)), 70000, []int64{0, 1, 2}, 8}, {named(single(0), single(70000), single(140000), single(210000), single(280000), single(350000)), 70000, []int64{0, 1, 2, 3, 4, 5}, 64}, {named(single(0), single(70000), single(140000), single(210000), single(280000), single(280000)), 70000, []int64{0, 1, 2, 3, 4}, 58}, {named(single(0), single(0), single(140000), single(210000), single(280000), single(350000)), 70000, []int64{0, 2, 3, 4, 5}, 62}, {named(down, single(0), single(140000), single(210000), single(280000), single(350000)), 70000, []int64{1, 2, 3, 4, 5}, 63},
		{named(single(0), single(70000), down, single(0), single(140000), single(70000)), 70000, []int64{0, 1, 4}, 25}, {named(single(0), single(70000), single(0), single(70000), single(140000), single(210000)), 70000, []int64{0, 1, 4, 5}, 48},
	}
	for _, c := range cases {
		checkFewest(t, c.list, c.step, c.want, c.nodes)
	}
}

func TestP11TheFewestProjectorsLeaveNothingDark(t *testing.T) {
	random := rand.New(rand.NewSource(91))
	for range 300 {
		list, step := randomProjectors(random, random.Intn(7)), 20000+random.Int63n(70001)
		few, code := impl.FewestProjectors(list, step, 64)
		checkResult(t, "the code of FewestProjectors", code, impl.OK)
		kept := []impl.Projector{}
		for _, i := range few {
			kept = append(kept, list[i])
		}
		want, _ := impl.DarkSpots(list, step)
		checkResult(t, fmt.Sprintf("DarkSpots(%v, %d), the fewest of %v", kept, step, list), codedMany(impl.DarkSpots(kept, step)), codedMany(want, impl.OK))
		for i := range kept {
			fewer := slices.Delete(slices.Clone(kept), i, i+1)
			if dark, _ := impl.DarkSpots(fewer, step); len(dark) <= len(want) {
				t.Errorf("FewestProjectors(%v, %d): got %v, of which %d is not needed", list, step, few, few[i])
			}
		}
	}
}

// Promise 11: goroutines.

func TestP11SchedulingDoesNotMatter(t *testing.T) {
	defer runtime.GOMAXPROCS(runtime.GOMAXPROCS(0))
	lists := validProjectorLists()
	all := func() []any {
		results := []any{}
		for _, list := range lists {
			results = append(results, resultsOf(append(stepCalls(list, 10000, 64), stepCalls(list, 77777, 3)...)...)...)
		}
		return results
	}
	want := all()
	for _, count := range []int{1, 2, 3, 8, 64} {
		runtime.GOMAXPROCS(count)
		for range 2 {
			if !reflect.DeepEqual(all(), want) {
				t.Fatalf("with %d processors, results differ", count)
			}
		}
		// The same lists are also used by several goroutines at once.
		results := make([][]any, 4)
		var workers sync.WaitGroup
		for i := range results {
			workers.Go(func() { results[i] = all() })
		}
		workers.Wait()
		for i := range results {
			if !reflect.DeepEqual(results[i], want) {
				t.Fatalf("with %d processors and several goroutines, results differ", count)
			}
		}
	}
}

func TestP11NoGoroutineIsLeft(t *testing.T) {
	before := runtime.NumGoroutine()
	for range 50 {
		for _, list := range validProjectorLists() {
			stepCalls(list, 45000, 1)
		}
		stepCalls(equalProjectors(7), 45000, 1)
		stepCalls(equalProjectors(3), 0, 1)
	}
	// A worker that has told that it is done may still be about to end.
	for range 1000 {
		if runtime.NumGoroutine() <= before {
			return
		}
		time.Sleep(time.Millisecond)
	}
	t.Errorf("%d goroutines were there, and %d are left", before, runtime.NumGoroutine())
}

// Promise 11: texts.

var projectorTexts = textForm[impl.Projector]{"Projector", impl.ProjectorText, impl.ReadProjector}

func TestP11ProjectorIsReadBack(t *testing.T) {
	cases := []struct {
		p    impl.Projector
		text string
	}{
		{projector("a", 0, 90000, 90000, 500), "a 0.000 90.000 90.000 500"}, {projector("front", 359999, -30, 45500, 1000), "front 359.999 -0.030 45.500 1000"}, {projector("abcdefghij", 0, -90000, 5000, 1), "abcdefghij 0.000 -90.000 5.000 1"},
		{projector("z9", 359999, 90000, 120000, 1000), "z9 359.999 90.000 120.000 1000"}, {projector("a", 1, -1, 5001, 2), "a 0.001 -0.001 5.001 2"}, {projector("a", 12345, -67890, 119999, 999), "a 12.345 -67.890 119.999 999"}, {projector("a", 0, 0, 5000, 1), "a 0.000 0.000 5.000 1"},
	}
	for _, c := range cases {
		projectorTexts.checkReadBack(t, c.p, c.text)
	}
	random := rand.New(rand.NewSource(92))
	for _, p := range append(validProjectors(), randomProjectors(random, 500)...) {
		if p.Name > "s99" {
			p.Name = "other"
		}
		text := strings.Join([]string{p.Name, impl.AngleText(p.Azimuth), impl.AngleText(p.Altitude), impl.AngleText(p.Field), impl.Decimal(p.Power)}, " ")
		projectorTexts.checkReadBack(t, p, text)
	}
}

func TestP11ProjectorTextRefuses(t *testing.T) { projectorTexts.checkNoTexts(t, invalidProjectors()) }

func TestP11ReadProjectorRefuses(t *testing.T) {
	texts := []string{
		"a -0.001 0.000 60.000 500", "a 360.000 0.000 60.000 500", "a 0.000 90.001 60.000 500", "a 0.000 -90.001 60.000 500", "a 0.000 0.000 4.999 500", "a 0.000 0.000 120.001 500", "a 0.000 0.000 60.000 0", "a 0.000 0.000 60.000 1001",
		"a 0.000 180.000 60.000 500", "a 0.000 0.000 -60.000 500", "a 0.000 0.000 60.000 -500", "a 0.000 0.000 400.000 500", "a -90.000 0.000 60.000 500",
		"a", "a ", "a 0.000", "a 0.000 0.000", "a 0.000 0.000 60.000", "a 0.000 0.000 60.000 ", "a 0.000 0.000 60.000 500 ", " a 0.000 0.000 60.000 500", "a 0.000 0.000 60.000 500 500", "a 0.000 0.000 0.000 60.000 500", "a b 0.000 0.000 60.000 500",
		"a  0.000 0.000 60.000 500", "a 0.000  0.000 60.000 500", "a 0.000 0.000  60.000 500", "a 0.000 0.000 60.000  500", "a\t0.000 0.000 60.000 500", "a 0.000 0.000 60.000\t500", "a 0.000 0.000 60.000 500\n", "a 0.000\u00a00.000 60.000 500",
		"a 0.000,0.000,60.000,500", "a 0,0,60000,500", "a 0 0 60000 500", "a 0.000 0.000 60.000 0.500", "0.000 0.000 60.000 500", " 0.000 0.000 60.000 500", "0.000 a 0.000 60.000 500", "a 500 0.000 0.000 60.000", "a0.000 0.000 60.000 500",
	}
	for _, word := range []string{"-0.000", "+0.000", "00.000", "01.000", "0.00", "0.0000", "0,000", ".000", "0.", "0", "1e3", "", "b", "-", "--1.000", "1.-00", "60", "060.000", "+60.000", "60.0", "60.0000", "999999999999999999999.000"} {
		texts = append(texts, "a "+word+" 0.000 60.000 500", "a 0.000 "+word+" 60.000 500", "a 0.000 0.000 "+word+" 500")
	}
	for _, word := range append(noNumbers(), "0500", "+500", "500.", "500.000", "5e2", "-500", "0x1f4") {
		texts = append(texts, "a 0.000 0.000 60.000 "+word)
	}
	for _, name := range invalidNames() {
		texts = append(texts, name+" 0.000 0.000 60.000 500")
	}
	texts = append(texts, "a "+strings.Repeat("0", 10000)+".000 0.000 60.000 500", "a 0.000 0.000 60.000 "+strings.Repeat("5", 10000), "a"+strings.Repeat(" 0.000", 10000), strings.Repeat("a", 10000)+" 0.000 0.000 60.000 500")
	projectorTexts.checkNotRead(t, append(texts, edgeTexts()...))
}

func TestP11ReadProjectorRefusesChangedBytes(t *testing.T) {
	projectorTexts.checkChanged(t, "main 123.456 -67.890 119.999 777")
	projectorTexts.checkNoParts(t, "main 123.456 -67.890 119.999 7")
}
