package tests

import (
	"fmt"
	"math/rand"
	"slices"
	"strings"
	"testing"

	"loop.example/g00955/impl"
)

// codedSpot is a result of SpotOf.
type codedSpot struct {
	spot impl.Spot
	code int64
}

// codedView is a result of ViewFrom.
type codedView struct{ azimuth, altitude, length, code int64 }

func spotOf(azimuth, altitude int64) codedSpot {
	p, code := impl.SpotOf(azimuth, altitude)
	return codedSpot{p, code}
}

func viewFrom(d impl.Dome, seat impl.Vector, azimuth, altitude int64) codedView {
	seenAzimuth, seenAltitude, length, code := impl.ViewFrom(d, seat, azimuth, altitude)
	return codedView{seenAzimuth, seenAltitude, length, code}
}

func dome(radius, tilt int64) impl.Dome { return impl.Dome{Name: "a", Radius: radius, Tilt: tilt} }

// validDomes are domes at the ends of the ranges and between them.
func validDomes() []impl.Dome {
	return []impl.Dome{
		dome(1000, 0), dome(1001, 1), dome(9000, 30000), dome(12345, 15432), dome(29999, 44999), dome(30000, 45000), dome(1000, 45000), dome(30000, 0),
		{Name: "abcdefghij", Radius: 20000, Tilt: 500}, {Name: "z9", Radius: 7777, Tilt: 22500},
	}
}

// invalidDomes are domes with one field that no dome has.
func invalidDomes() []impl.Dome {
	list := []impl.Dome{{}}
	for _, name := range invalidNames() {
		list = append(list, impl.Dome{Name: name, Radius: 9000, Tilt: 30000})
	}
	for _, n := range []int64{999, 30001, 0, -1, -1000, 9000000, minInt, maxInt} {
		list = append(list, dome(n, 0))
	}
	for _, n := range []int64{-1, 45001, -45000, 90000, 360000, minInt, minInt + 1, maxInt} {
		list = append(list, dome(9000, n))
	}
	return list
}

func randomDome(random *rand.Rand) impl.Dome {
	d := dome(1000+random.Int63n(29001), random.Int63n(45001))
	switch random.Intn(4) {
	case 0:
		d.Radius = 1000 + random.Int63n(30)
	case 1:
		d.Tilt = 1000 * random.Int63n(46)
	}
	return d
}

// randomSeat returns a seat that is inside of a dome.
func randomSeat(random *rand.Rand, d impl.Dome) impl.Vector {
	for {
		seat := randomVector(random, d.Radius-1)
		if seat.X*seat.X+seat.Y*seat.Y+seat.Z*seat.Z < (d.Radius-1)*(d.Radius-1) {
			return seat
		}
	}
}

// turnCalls are those of the functions of a dome that accept directions below the floor.
func turnCalls(d impl.Dome, azimuth, altitude int64) []horizonCall {
	arguments := fmt.Sprintf("(%q, %d, %d)", fmt.Sprint(d), azimuth, altitude)
	return []horizonCall{
		{"TiltedDirection" + arguments, codedBoth(impl.TiltedDirection(d, azimuth, altitude))},
		{"LevelDirection" + arguments, codedBoth(impl.LevelDirection(d, azimuth, altitude))},
	}
}

// pointCalls are those of the functions of a dome and of directions that have to be up.
func pointCalls(d impl.Dome, seat impl.Vector, azimuth, altitude int64) []horizonCall {
	arguments := fmt.Sprintf("(%q, %v, %d, %d)", fmt.Sprint(d), seat, azimuth, altitude)
	return []horizonCall{
		{"DomePoint" + arguments, codedPlace(impl.DomePoint(d, azimuth, altitude))},
		{"ArcOnDome to 0, 0" + arguments, coded(impl.ArcOnDome(d, azimuth, altitude, 0, 0))},
		{"ArcOnDome from 0, 90000" + arguments, coded(impl.ArcOnDome(d, 0, 90000, azimuth, altitude))},
		{"ArcOnDome of both" + arguments, coded(impl.ArcOnDome(d, azimuth, altitude, azimuth, altitude))},
		{"ViewFrom" + arguments, viewFrom(d, seat, azimuth, altitude)},
	}
}

// domeCalls are those of all functions of a dome that return a code.
func domeCalls(d impl.Dome, seat impl.Vector, azimuth, altitude, step int64) []horizonCall {
	call := fmt.Sprintf("(%q, %v, %d)", fmt.Sprint(d), seat, step)
	return append(slices.Concat(turnCalls(d, azimuth, altitude), pointCalls(d, seat, azimuth, altitude)),
		horizonCall{"DomeArea" + call, coded(impl.DomeArea(d))},
		horizonCall{"WorstView" + call, coded(impl.WorstView(d, seat, step))})
}

// Promise 1, for the functions of chapter 9.

func TestP1DomesReturnEqualResults(t *testing.T) {
	numbers := slices.Concat(edgeNumbers(), edgeTurns(), noElevations(), []int64{14999, 15000, 90000, 999, 8999})
	for i, d := range append(validDomes(), invalidDomes()...) {
		for k, n := range numbers {
			o, p := numbers[(5*i+3*k)%len(numbers)], numbers[(3*i+7*k)%len(numbers)]
			checkRepeats(t, fmt.Sprintf("functions of the dome %v and the numbers %d, %d, %d", d, n, o, p), func() []any {
				results := resultsOf(slices.Concat(
					domeCalls(d, impl.Vector{}, n, o, p), domeCalls(d, vec(n, o, p), 0, 0, 90000), domeCalls(d, vec(n, 0, 0), 0, p, o), domeCalls(d, vec(0, 0, p), o, n, n))...)
				return append(results, impl.ValidDome(d), impl.DomeText(d), impl.DomeText(dome(n, o)), coded(impl.DomeArea(dome(o, n))))
			})
		}
	}
	for _, n := range numbers {
		for _, o := range numbers {
			checkRepeats(t, fmt.Sprintf("functions of the numbers %d, %d", n, o), func() []any {
				return []any{spotOf(n, o), codedBoth(impl.DirectionAt(impl.Spot{X: n, Y: o})), coded(impl.ZoneShare(n, o))}
			})
		}
	}
	for _, s := range edgeTexts() {
		checkRepeats(t, fmt.Sprintf("functions of the text %.40q", s), func() []any {
			d, ok := impl.ReadDome(s)
			named := impl.Dome{Name: s, Radius: 1000}
			return []any{d, ok, impl.ValidDome(named), impl.DomeText(named), coded(impl.DomeArea(named))}
		})
	}
}

// Promise 10: valid domes.

func TestP10DomeConstants(t *testing.T) {
	checkResult(t, "constants", []int64{impl.MinDome, impl.MaxDome, impl.MaxTilt}, []int64{1000, 30000, 45000})
}

func TestP10ValidDome(t *testing.T) {
	domes := validDomes()
	for _, n := range []int64{1000, 1001, 29999, 30000} {
		domes = append(domes, dome(n, 0))
	}
	for _, n := range []int64{0, 1, 44999, 45000} {
		domes = append(domes, dome(9000, n))
	}
	for _, d := range domes {
		checkResult(t, fmt.Sprintf("ValidDome(%v)", d), impl.ValidDome(d), true)
	}
	for _, d := range invalidDomes() {
		checkResult(t, fmt.Sprintf("ValidDome(%q)", fmt.Sprint(d)), impl.ValidDome(d), false)
	}
}

func TestP10InvalidDomesAreRefusedFirst(t *testing.T) {
	for _, d := range invalidDomes() {
		for _, seat := range []impl.Vector{{}, vec(30000, 0, 0), vec(minInt, maxInt, minInt)} {
			for _, n := range [][3]int64{{0, 0, 15000}, {359999, 90000, 90000}, {0, -1, 14999}, {-1, 0, 90001}, {360000, 90001, 0}, {minInt, maxInt, minInt}} {
				checkRefused(t, domeCalls(d, seat, n[0], n[1], n[2]), impl.ErrInvalid)
			}
		}
	}
}

// notUp are pairs of numbers that are not the angles of a direction that is up.
func notUp() [][2]int64 {
	list := slices.Concat(noDirections(), [][2]int64{{0, -1}, {0, -90000}, {359999, -1}, {180000, -45000}})
	for _, n := range noTurns() {
		list = append(list, [2]int64{n, 0}, [2]int64{n, 45000}, [2]int64{n, 90000}, [2]int64{n, -1})
	}
	return list
}

// Promise 10: spots.

func TestP10SpotCases(t *testing.T) {
	cases := []struct{ azimuth, altitude, x, y int64 }{
		// In the zenith, the azimuth does not matter.
		{0, 90000, 0, 0}, {1, 90000, 0, 0}, {90000, 90000, 0, 0}, {123456, 90000, 0, 0}, {270000, 90000, 0, 0}, {359999, 90000, 0, 0},
		{0, 0, 0, 1000000}, {90000, 0, 1000000, 0}, {180000, 0, 0, -1000000}, {270000, 0, -1000000, 0}, {359999, 0, -17, 1000000}, {1, 0, 17, 1000000},
		{0, 45000, 0, 500000}, {90000, 45000, 500000, 0}, {180000, 45000, 0, -500000}, {270000, 45000, -500000, 0}, {45000, 45000, 353554, 353554}, {225000, 45000, -353554, -353554},
		{30000, 0, 500000, 866025}, {60000, 0, 866025, 500000}, {120000, 0, 866025, -500000}, {150000, 0, 500000, -866025}, {330000, 0, -500000, 866025}, {30000, 30000, 333334, 577350},
		// An altitude of a thousandth is a little more than 11 millionths.
		{0, 89999, 0, 11}, {90000, 89999, 11, 0}, {180000, 89998, 0, -22}, {270000, 89997, -33, 0}, {45000, 89999, 8, 8}, {0, 1, 0, 999989}, {270000, 1, -999989, 0}, {0, 89995, 0, 56}, {0, 60000, 0, 333333}, {0, 30000, 0, 666667},
	}
	for _, c := range cases {
		checkResult(t, fmt.Sprintf("SpotOf(%d, %d)", c.azimuth, c.altitude), spotOf(c.azimuth, c.altitude), codedSpot{impl.Spot{X: c.x, Y: c.y}, impl.OK})
	}
}

func TestP10SpotOfRefuses(t *testing.T) {
	for _, d := range notUp() {
		checkResult(t, fmt.Sprintf("SpotOf(%d, %d)", d[0], d[1]), spotOf(d[0], d[1]), codedSpot{impl.Spot{}, impl.ErrRange})
	}
}

// plainSpot follows the text of the document.
func plainSpot(sines []int64, azimuth, altitude int64) impl.Spot {
	r := plainQuotient((90000-altitude)*1000000, 90000)
	return impl.Spot{X: plainQuotient(r*sines[azimuth], 1000000), Y: plainQuotient(r*sines[plainForwards(-90000, azimuth)], 1000000)}
}

// plainDirectionAt follows the text of the document for a spot that is one.
func plainDirectionAt(sines []int64, p impl.Spot) codedTwo {
	r, azimuth := plainRoot(p.X*p.X+p.Y*p.Y), int64(0)
	if r > 1000000 {
		return codedBoth(0, 0, impl.ErrRange)
	}
	if r > 0 {
		azimuth = plainTangent(sines, p.X, p.Y)
	}
	return codedBoth(azimuth, 90000-plainQuotient(r*90000, 1000000), impl.OK)
}

// edgeSteps are angles from 0 to 90000, with both ends and their neighbours.
func edgeSteps() []int64 {
	return []int64{0, 1, 2, 499, 500, 1000, 12345, 30000, 44999, 45000, 60000, 77777, 89000, 89500, 89995, 89998, 89999, 90000}
}

// upDirections are directions at all edges and many others, all of them up.
func upDirections(random *rand.Rand, count int) [][2]int64 {
	list := [][2]int64{}
	for _, altitude := range edgeSteps() {
		for _, azimuth := range edgeTurns() {
			list = append(list, [2]int64{azimuth, altitude})
		}
	}
	for range count {
		list = append(list, [2]int64{random.Int63n(360000), random.Int63n(90001)})
	}
	return list
}

func TestP10SpotsEverywhere(t *testing.T) {
	sines := allSines()
	for _, d := range upDirections(rand.New(rand.NewSource(70)), 3000) {
		p := plainSpot(sines, d[0], d[1])
		checkResult(t, fmt.Sprintf("SpotOf(%d, %d)", d[0], d[1]), spotOf(d[0], d[1]), codedSpot{p, impl.OK})
		checkResult(t, fmt.Sprintf("DirectionAt(%v)", p), codedBoth(impl.DirectionAt(p)), plainDirectionAt(sines, p))
	}
}

func TestP10DirectionAtCases(t *testing.T) {
	cases := []struct{ x, y, azimuth, altitude int64 }{
		{0, 0, 0, 90000}, {0, 1, 0, 90000}, {1, 0, 90000, 90000}, {0, -1, 180000, 90000}, {-1, 0, 270000, 90000}, {1, 1, 45000, 90000}, {-3, -4, 216870, 90000}, {0, 5, 0, 90000}, {0, 6, 0, 89999}, {6, 0, 90000, 89999}, {-12, 0, 270000, 89999},
		// The edge of the circle, at which roots are rounded down.
		{0, 1000000, 0, 0}, {1000000, 0, 90000, 0}, {0, -1000000, 180000, 0}, {-1000000, 0, 270000, 0}, {600000, 800000, 36870, 0}, {-800000, 600000, 306870, 0}, {707106, 707106, 45000, 0}, {707107, 707107, 45000, 0}, {-707107, -707107, 225000, 0}, {707106, 707108, 45000, 0},
		{1000000, 1414, 89919, 0}, {1414, -1000000, 179919, 0}, {-1000000, -1414, 269919, 0}, {0, 999999, 0, 0}, {0, 999994, 0, 1}, {999995, 0, 90000, 0}, {999984, 0, 90000, 1}, {999983, 0, 90000, 2},
		{0, 500000, 0, 45000}, {-500000, 0, 270000, 45000}, {353553, 353553, 45000, 45000}, {300000, -400000, 143130, 45000}, {500000, 866025, 30000, 0}, {250000, 433013, 30000, 45000}, {0, 333333, 0, 60000},
	}
	for _, c := range cases {
		p := impl.Spot{X: c.x, Y: c.y}
		checkResult(t, fmt.Sprintf("DirectionAt(%v)", p), codedBoth(impl.DirectionAt(p)), codedBoth(c.azimuth, c.altitude, impl.OK))
	}
}

func TestP10DirectionAtRefuses(t *testing.T) {
	spots := []impl.Spot{
		{X: 1000000, Y: 1415}, {X: -1000000, Y: 1415}, {X: 1415, Y: 1000000}, {X: -1415, Y: -1000000}, {X: 1000000, Y: 1000000}, {X: -1000000, Y: -1000000}, {X: 800000, Y: 800000}, {X: 707107, Y: 707108}, {X: 707108, Y: 707108}, {X: 600001, Y: 800001}, {X: -600002, Y: 800001},
	}
	// The squares of some of these are 0 or small in 64 bits.
	for _, n := range []int64{1000001, -1000001, 2000000, 1 << 32, -1 << 32, 1 << 62, 3037000500, minInt, minInt + 1, maxInt} {
		spots = append(spots, impl.Spot{X: n}, impl.Spot{Y: n}, impl.Spot{X: n, Y: n}, impl.Spot{X: n, Y: -n}, impl.Spot{X: 5, Y: n}, impl.Spot{X: n, Y: 1000000})
	}
	for _, p := range spots {
		checkResult(t, fmt.Sprintf("DirectionAt(%v)", p), codedBoth(impl.DirectionAt(p)), codedBoth(0, 0, impl.ErrRange))
	}
}

// randomSpot returns a spot of the square around the circle; near to the middle and to the edge, there are more of them.
func randomSpot(random *rand.Rand) impl.Spot {
	most := []int64{3, 50, 1000000, 710000}[random.Intn(4)]
	return impl.Spot{X: random.Int63n(2*most+1) - most, Y: random.Int63n(2*most+1) - most}
}

func TestP10DirectionsOfSpotsEverywhere(t *testing.T) {
	sines, random := allSines(), rand.New(rand.NewSource(71))
	refused := 0
	for range 4000 {
		p := randomSpot(random)
		want := plainDirectionAt(sines, p)
		checkResult(t, fmt.Sprintf("DirectionAt(%v)", p), codedBoth(impl.DirectionAt(p)), want)
		if want.code != impl.OK {
			refused++
		}
	}
	if refused < 100 || refused > 3000 {
		t.Errorf("%d of 4000 spots are beyond the circle", refused)
	}
}

func TestP10SpotsLeadBackToTheirDirections(t *testing.T) {
	for _, d := range upDirections(rand.New(rand.NewSource(72)), 20000) {
		spot := spotOf(d[0], d[1])
		azimuth, altitude, code := impl.DirectionAt(spot.spot)
		// Sines between whole degrees are less than they should be, so that spots are nearer to the middle by up to 38 millionths.
		if spot.code != impl.OK || code != impl.OK || sizeOf(altitude-d[1]) > 4 {
			t.Fatalf("DirectionAt the spot %v of %v: got %d, %d, %d", spot, d, azimuth, altitude, code)
		}
		// The rounding of a spot moves it by less than a millionth, which matters the more for its azimuth the nearer the zenith is.
		if distance := (90000 - d[1]) * 100 / 9; impl.AngleBetween(azimuth, d[0])*distance > distance+60000 {
			t.Fatalf("DirectionAt the spot %v of %v: got %d, %d, %d", spot, d, azimuth, altitude, code)
		}
		if d[1] == 90000 {
			checkResult(t, "DirectionAt the spot of the zenith", codedBoth(azimuth, altitude, code), codedBoth(0, 90000, impl.OK))
		}
	}
}

func TestP10DirectionsLeadBackToTheirSpots(t *testing.T) {
	random := rand.New(rand.NewSource(73))
	for range 20000 {
		p := randomSpot(random)
		azimuth, altitude, code := impl.DirectionAt(p)
		if code != impl.OK {
			continue
		}
		// A thousandth of a degree is up to 18 millionths, and sines between whole degrees are less by up to 38.
		back := spotOf(azimuth, altitude)
		if back.code != impl.OK || max(sizeOf(back.spot.X-p.X), sizeOf(back.spot.Y-p.Y)) > 55 {
			t.Fatalf("SpotOf the direction %d, %d of %v: got %v", azimuth, altitude, p, back)
		}
	}
}

// Promise 10: turns.

func TestP10TurnCases(t *testing.T) {
	cases := []struct {
		tilt, azimuth, altitude int64
		tilted, level           codedTwo
	}{
		// Without a tilt, only the azimuths of the zenith and of its opposite change, which have no other one than 90000.
		{0, 0, 0, codedBoth(0, 0, 0), codedBoth(0, 0, 0)}, {0, 359999, 0, codedBoth(359999, 0, 0), codedBoth(359999, 0, 0)}, {0, 135000, 45000, codedBoth(135000, 45000, 0), codedBoth(135000, 45000, 0)}, {0, 200000, -30000, codedBoth(200000, -30000, 0), codedBoth(200000, -30000, 0)},
		{0, 0, 90000, codedBoth(90000, 90000, 0), codedBoth(90000, 90000, 0)}, {0, 359999, 90000, codedBoth(90000, 90000, 0), codedBoth(90000, 90000, 0)}, {0, 180000, -90000, codedBoth(90000, -90000, 0), codedBoth(90000, -90000, 0)},
		// The axis of the turn stays where it is.
		{45000, 90000, 0, codedBoth(90000, 0, 0), codedBoth(90000, 0, 0)}, {45000, 270000, 0, codedBoth(270000, 0, 0), codedBoth(270000, 0, 0)}, {30000, 90000, 0, codedBoth(90000, 0, 0), codedBoth(90000, 0, 0)}, {1, 270000, 0, codedBoth(270000, 0, 0), codedBoth(270000, 0, 0)},
		{30000, 0, 0, codedBoth(0, 30000, 0), codedBoth(0, -30000, 0)}, {30000, 180000, 0, codedBoth(180000, -30000, 0), codedBoth(180000, 30000, 0)}, {30000, 0, 30000, codedBoth(0, 60000, 0), codedBoth(0, 0, 0)}, {30000, 180000, 30000, codedBoth(180000, 0, 0), codedBoth(180000, 60000, 0)},
		{30000, 0, 60000, codedBoth(90000, 90000, 0), codedBoth(0, 30000, 0)}, {30000, 180000, 60000, codedBoth(180000, 30000, 0), codedBoth(90000, 90000, 0)}, {30000, 0, 75000, codedBoth(180000, 75000, 0), codedBoth(0, 45000, 0)},
		{45000, 0, 0, codedBoth(0, 45000, 0), codedBoth(0, -45000, 0)}, {45000, 0, 45000, codedBoth(90000, 90000, 0), codedBoth(0, 0, 0)}, {45000, 180000, 45000, codedBoth(180000, 0, 0), codedBoth(90000, 90000, 0)},
		// The zenith, straight down, and below the horizon.
		{45000, 0, 90000, codedBoth(180000, 45000, 0), codedBoth(0, 45000, 0)}, {45000, 77777, 90000, codedBoth(180000, 45000, 0), codedBoth(0, 45000, 0)}, {45000, 0, -90000, codedBoth(0, -45000, 0), codedBoth(180000, -45000, 0)}, {45000, 359999, -90000, codedBoth(0, -45000, 0), codedBoth(180000, -45000, 0)},
		{45000, 0, -45000, codedBoth(0, 0, 0), codedBoth(90000, -90000, 0)}, {45000, 180000, -45000, codedBoth(90000, -90000, 0), codedBoth(180000, 0, 0)}, {30000, 0, -60000, codedBoth(0, -30000, 0), codedBoth(90000, -90000, 0)}, {30000, 180000, -30000, codedBoth(180000, -60000, 0), codedBoth(180000, 0, 0)},
		{45000, 90000, 45000, codedBoth(125265, 30000, 0), codedBoth(54735, 30000, 0)}, {45000, 270000, 45000, codedBoth(234735, 30000, 0), codedBoth(305265, 30000, 0)}, {30000, 90000, -60000, codedBoth(49106, -48590, 0), codedBoth(130894, -48590, 0)},
	}
	for _, c := range cases {
		d := dome(9000, c.tilt)
		call := fmt.Sprintf("(%v, %d, %d)", d, c.azimuth, c.altitude)
		checkResult(t, "TiltedDirection"+call, codedBoth(impl.TiltedDirection(d, c.azimuth, c.altitude)), c.tilted)
		checkResult(t, "LevelDirection"+call, codedBoth(impl.LevelDirection(d, c.azimuth, c.altitude)), c.level)
	}
}

func TestP10TurnsRefuse(t *testing.T) {
	for _, d := range validDomes() {
		for _, n := range noDirections() {
			checkRefused(t, turnCalls(d, n[0], n[1]), impl.ErrRange)
		}
		for _, n := range noTurns() {
			checkRefused(t, turnCalls(d, n, -90000), impl.ErrRange)
			checkRefused(t, turnCalls(d, n, 90000), impl.ErrRange)
		}
		for _, n := range noElevations() {
			checkRefused(t, turnCalls(d, 0, n), impl.ErrRange)
			checkRefused(t, turnCalls(d, 359999, n), impl.ErrRange)
		}
	}
}

// plainFloor returns the vector of a direction, as the text of the document says it.
func plainFloor(sines []int64, azimuth, altitude int64) impl.Vector {
	return plainDirection(sines, plainForwards(azimuth, 90000), altitude)
}

// plainFloorAngles returns the direction of a vector; both angles of one without a length are 0, which is not an error here.
func plainFloorAngles(sines []int64, v impl.Vector) codedTwo {
	angles := plainAngles(sines, v)
	return codedBoth(plainForwards(angles.longitude, 90000), angles.latitude, impl.OK)
}

func plainTurn(sines []int64, azimuth, altitude, angle int64) codedTwo {
	return plainFloorAngles(sines, plainRotate(sines, plainFloor(sines, azimuth, altitude), 1, angle).vector)
}

// allDirections are those of upDirections and their opposites below the horizon.
func allDirections(random *rand.Rand, count int) [][2]int64 {
	list := upDirections(random, count)
	for _, d := range list {
		list = append(list, [2]int64{d[0], -d[1]})
	}
	return list
}

func TestP10TurnsOfDomesEverywhere(t *testing.T) {
	sines, random := allSines(), rand.New(rand.NewSource(74))
	for i, n := range allDirections(random, 1000) {
		for _, d := range []impl.Dome{dome(1000, 0), dome(30000, 45000), validDomes()[i%len(validDomes())], randomDome(random)} {
			call := fmt.Sprintf("(%v, %d, %d)", d, n[0], n[1])
			checkResult(t, "TiltedDirection"+call, codedBoth(impl.TiltedDirection(d, n[0], n[1])), plainTurn(sines, n[0], n[1], d.Tilt))
			checkResult(t, "LevelDirection"+call, codedBoth(impl.LevelDirection(d, n[0], n[1])), plainTurn(sines, n[0], n[1], -d.Tilt))
		}
	}
}

// apart returns the angle between two directions.
func apart(t *testing.T, azimuth, altitude, otherAzimuth, otherAltitude int64) int64 {
	t.Helper()
	v, _ := impl.DirectionOf(azimuth, altitude)
	w, _ := impl.DirectionOf(otherAzimuth, otherAltitude)
	between, code := impl.Separation(v, w)
	checkResult(t, "the code of Separation", code, int64(impl.OK))
	return between
}

func TestP10TurnsUndoEachOther(t *testing.T) {
	random := rand.New(rand.NewSource(75))
	for i, n := range allDirections(random, 5000) {
		for _, d := range []impl.Dome{dome(1000, 0), dome(30000, 45000), validDomes()[i%len(validDomes())], randomDome(random)} {
			tilted, tiltedAltitude, code := impl.TiltedDirection(d, n[0], n[1])
			back := codedBoth(impl.LevelDirection(d, tilted, tiltedAltitude))
			level, levelAltitude, levelCode := impl.LevelDirection(d, n[0], n[1])
			again := codedBoth(impl.TiltedDirection(d, level, levelAltitude))
			if code != impl.OK || back.code != impl.OK || apart(t, n[0], n[1], back.first, back.second) > 5 {
				t.Fatalf("LevelDirection(%v, TiltedDirection of %v): got %v", d, n, back)
			}
			if levelCode != impl.OK || again.code != impl.OK || apart(t, n[0], n[1], again.first, again.second) > 5 {
				t.Fatalf("TiltedDirection(%v, LevelDirection of %v): got %v", d, n, again)
			}
		}
	}
}

// Promise 10: points, arcs and areas.

func TestP10DomePointCases(t *testing.T) {
	cases := []struct {
		radius, azimuth, altitude int64
		want                      impl.Vector
	}{
		{9000, 0, 0, vec(0, 9000, 0)}, {9000, 90000, 0, vec(9000, 0, 0)}, {9000, 180000, 0, vec(0, -9000, 0)}, {9000, 270000, 0, vec(-9000, 0, 0)}, {9000, 45000, 30000, vec(5511, 5511, 4500)}, {9000, 359999, 0, vec(0, 9000, 0)},
		{9000, 0, 90000, vec(0, 0, 9000)}, {9000, 123456, 90000, vec(0, 0, 9000)}, {9000, 359999, 90000, vec(0, 0, 9000)}, {9000, 0, 30000, vec(0, 7794, 4500)}, {9000, 270000, 60000, vec(-4500, 0, 7794)},
		{1000, 0, 0, vec(0, 1000, 0)}, {1000, 90000, 30000, vec(866, 0, 500)}, {1000, 225000, 0, vec(-707, -707, 0)}, {1000, 30000, 0, vec(500, 866, 0)}, {1000, 330000, 0, vec(-500, 866, 0)}, {1000, 77777, 90000, vec(0, 0, 1000)}, {1000, 0, 1, vec(0, 1000, 0)},
		{30000, 0, 0, vec(0, 30000, 0)}, {30000, 90000, 0, vec(30000, 0, 0)}, {30000, 0, 90000, vec(0, 0, 30000)}, {30000, 30000, 0, vec(15000, 25981, 0)}, {30000, 150000, 60000, vec(7500, -12990, 25981)}, {30000, 0, 1, vec(0, 30000, 1)}, {30000, 1, 0, vec(1, 30000, 0)},
		{30000, 359999, 0, vec(-1, 30000, 0)}, {30000, 180000, 89999, vec(0, -1, 30000)}, {1001, 45000, 45000, vec(501, 501, 708)},
	}
	for _, c := range cases {
		for _, tilt := range []int64{0, 45000} {
			d := dome(c.radius, tilt)
			checkResult(t, fmt.Sprintf("DomePoint(%v, %d, %d)", d, c.azimuth, c.altitude), codedPlace(impl.DomePoint(d, c.azimuth, c.altitude)), codedPlace(c.want, impl.OK))
		}
	}
}

func TestP10DirectionsThatAreNotUpAreRefused(t *testing.T) {
	for _, d := range validDomes() {
		for _, n := range notUp() {
			// ErrRange comes before the error of a seat that is not inside.
			for _, seat := range []impl.Vector{{}, vec(d.Radius-1, 0, 0), vec(minInt, minInt, minInt)} {
				checkRefused(t, pointCalls(d, seat, n[0], n[1]), impl.ErrRange)
			}
		}
	}
}

// plainPoint follows the text of the document.
func plainPoint(sines []int64, d impl.Dome, azimuth, altitude int64) impl.Vector {
	v := plainFloor(sines, azimuth, altitude)
	return vec(plainQuotient(d.Radius*v.X, 1000000), plainQuotient(d.Radius*v.Y, 1000000), plainQuotient(d.Radius*v.Z, 1000000))
}

func plainApart(sines []int64, azimuth, altitude, otherAzimuth, otherAltitude int64) int64 {
	return plainSeparation(sines, plainDirection(sines, azimuth, altitude), plainDirection(sines, otherAzimuth, otherAltitude)).value
}

func TestP10PointsAndArcsEverywhere(t *testing.T) {
	sines, random := allSines(), rand.New(rand.NewSource(76))
	directions := upDirections(random, 1000)
	for i, n := range directions {
		o := directions[random.Intn(len(directions))]
		for _, d := range []impl.Dome{dome(1000, 0), dome(30000, 45000), validDomes()[i%len(validDomes())], randomDome(random)} {
			checkResult(t, fmt.Sprintf("DomePoint(%v, %v)", d, n), codedPlace(impl.DomePoint(d, n[0], n[1])), codedPlace(plainPoint(sines, d, n[0], n[1]), impl.OK))
			want := coded(plainQuotient(d.Radius*plainApart(sines, n[0], n[1], o[0], o[1])*314159, 18000000000), impl.OK)
			checkResult(t, fmt.Sprintf("ArcOnDome(%v, %v, %v)", d, n, o), coded(impl.ArcOnDome(d, n[0], n[1], o[0], o[1])), want)
			checkResult(t, fmt.Sprintf("ArcOnDome(%v, %v, %v)", d, o, n), coded(impl.ArcOnDome(d, o[0], o[1], n[0], n[1])), want)
		}
	}
}

func TestP10ArcCases(t *testing.T) {
	cases := []struct{ radius, azimuth, altitude, otherAzimuth, otherAltitude, want int64 }{
		{9000, 0, 0, 90000, 0, 14137}, {9000, 0, 30000, 180000, 30000, 18850}, {9000, 270000, 0, 0, 90000, 14137}, {9000, 359000, 0, 1000, 0, 314}, {9000, 0, 0, 30000, 0, 4712},
		// Equal directions, which the zenith has at all azimuths, and opposite ones.
		{1000, 0, 0, 0, 0, 0}, {1000, 359999, 45000, 359999, 45000, 0}, {1000, 5, 90000, 5, 90000, 0}, {1000, 0, 90000, 180000, 90000, 0}, {30000, 0, 0, 0, 0, 0}, {30000, 77777, 90000, 359999, 90000, 0}, {30000, 12345, 67890, 12345, 67890, 0},
		{1000, 0, 0, 180000, 0, 3142}, {1000, 90000, 0, 270000, 0, 3142}, {30000, 0, 0, 180000, 0, 94248}, {30000, 45000, 0, 225000, 0, 94248}, {30000, 270000, 0, 90000, 0, 94248}, {29999, 0, 0, 180000, 0, 94245}, {1001, 0, 0, 180000, 0, 3145},
		{1000, 0, 0, 77000, 90000, 1571}, {30000, 0, 0, 77000, 90000, 47124}, {1000, 0, 0, 1000, 0, 17}, {30000, 0, 0, 1000, 0, 524}, {30000, 0, 0, 1, 0, 1}, {1000, 0, 0, 1, 0, 0}, {30000, 0, 89000, 180000, 89000, 1047}, {30000, 0, 60000, 180000, 60000, 31416},
	}
	for _, c := range cases {
		for _, tilt := range []int64{0, 45000} {
			d := dome(c.radius, tilt)
			call := fmt.Sprintf("ArcOnDome(%v, %d, %d, %d, %d)", d, c.azimuth, c.altitude, c.otherAzimuth, c.otherAltitude)
			checkResult(t, call, coded(impl.ArcOnDome(d, c.azimuth, c.altitude, c.otherAzimuth, c.otherAltitude)), coded(c.want, impl.OK))
			checkResult(t, call+" from the other one", coded(impl.ArcOnDome(d, c.otherAzimuth, c.otherAltitude, c.azimuth, c.altitude)), coded(c.want, impl.OK))
		}
	}
}

func TestP10DomeArea(t *testing.T) {
	for _, c := range [][2]int64{{1000, 6283180}, {1001, 6295753}, {9000, 508937580}, {12345, 957550506}, {29999, 5654485015}, {30000, 5654862000}} {
		for _, tilt := range []int64{0, 45000} {
			checkResult(t, fmt.Sprintf("DomeArea of the radius %d", c[0]), coded(impl.DomeArea(dome(c[0], tilt))), coded(c[1], impl.OK))
		}
	}
	for radius := int64(1000); radius <= 30000; radius += 13 {
		want := plainQuotient(628318*radius*radius, 100000)
		checkResult(t, fmt.Sprintf("DomeArea of the radius %d", radius), coded(impl.DomeArea(dome(radius, 0))), coded(want, impl.OK))
	}
}

func TestP10ZoneShareCases(t *testing.T) {
	for _, c := range [][3]int64{
		{0, 90000, 1000}, {0, 30000, 500}, {30000, 90000, 500}, {0, 0, 0}, {90000, 90000, 0}, {45000, 45000, 0}, {12345, 12345, 0}, {0, 45000, 707}, {45000, 90000, 293}, {0, 60000, 866}, {60000, 90000, 134}, {30000, 60000, 366},
		// Up to half a thousandth counts as nothing.
		{0, 28, 0}, {0, 29, 1}, {0, 1, 0}, {1, 90000, 1000}, {28, 90000, 1000}, {29, 90000, 999}, {0, 89999, 1000}, {89999, 90000, 0}, {0, 87000, 999}, {87000, 90000, 1}, {88000, 90000, 1}, {88200, 90000, 1}, {88300, 90000, 0}, {89000, 90000, 0}, {0, 6000, 105}, {84000, 90000, 5},
	} {
		checkResult(t, fmt.Sprintf("ZoneShare(%d, %d)", c[0], c[1]), coded(impl.ZoneShare(c[0], c[1])), coded(c[2], impl.OK))
	}
}

func TestP10ZoneShareRefuses(t *testing.T) {
	pairs := [][2]int64{{30001, 30000}, {1, 0}, {90000, 0}, {90000, 89999}, {-1, 0}, {-1, 90000}, {-1, -1}, {0, -1}, {0, 90001}, {90000, 90001}, {90001, 90001}, {90001, 90000}, {90001, 0}, {-90000, 90000}, {-90000, 0}, {45000, 135000}}
	for _, n := range []int64{minInt, minInt + 1, -impl.MaxValue, impl.MaxValue, maxInt} {
		pairs = append(pairs, [2]int64{n, 0}, [2]int64{0, n}, [2]int64{n, n}, [2]int64{n, 90000}, [2]int64{90000, n}, [2]int64{n, -n}, [2]int64{-n, n})
	}
	for _, p := range pairs {
		checkResult(t, fmt.Sprintf("ZoneShare(%d, %d)", p[0], p[1]), coded(impl.ZoneShare(p[0], p[1])), coded(0, impl.ErrRange))
	}
}

func TestP10ZonesMakeUpTheDome(t *testing.T) {
	sines, random := allSines(), rand.New(rand.NewSource(77))
	for range 500 {
		ends := []int64{0, 90000}
		for range random.Intn(12) {
			ends = append(ends, random.Int63n(90001))
		}
		slices.Sort(ends)
		sum := int64(0)
		for i, high := range ends[1:] {
			low := ends[i]
			share := coded(impl.ZoneShare(low, high))
			checkResult(t, fmt.Sprintf("ZoneShare(%d, %d)", low, high), share, coded(plainQuotient(1000*(sines[high]-sines[low]), 1000000), impl.OK))
			sum += share.value
		}
		// Each share is rounded by up to one half.
		if zones := int64(len(ends) - 1); sizeOf(sum-1000)*2 > zones {
			t.Errorf("the shares of the zones between %v: got %d together", ends, sum)
		}
	}
}

// Promise 10: views.

func TestP10ViewCases(t *testing.T) {
	cases := []struct {
		radius            int64
		seat              impl.Vector
		azimuth, altitude int64
		want              codedView
	}{
		{9000, vec(3000, 0, 0), 0, 0, codedView{341565, 0, 9486, 0}}, {9000, vec(0, -3000, 0), 0, 90000, codedView{0, 71565, 9486, 0}}, {9000, vec(0, 3000, 0), 123456, 90000, codedView{180000, 71565, 9486, 0}}, {9000, vec(-3000, 0, 0), 0, 90000, codedView{90000, 71565, 9486, 0}},
		{9000, vec(3000, 0, 0), 90000, 0, codedView{90000, 0, 6000, 0}}, {9000, vec(3000, 0, 0), 270000, 0, codedView{270000, 0, 12000, 0}}, {9000, vec(0, 0, 5000), 0, 0, codedView{0, -29055, 10295, 0}}, {9000, vec(0, 0, -9000+2), 0, 0, codedView{0, 44994, 12726, 0}},
		// Straight up and straight down, the azimuth is 90000.
		{9000, vec(0, 0, 0), 0, 90000, codedView{90000, 90000, 9000, 0}}, {9000, vec(0, 0, 5000), 0, 90000, codedView{90000, 90000, 4000, 0}}, {9000, vec(0, 0, -8998), 270000, 90000, codedView{90000, 90000, 17998, 0}}, {9000, vec(0, 0, 8998), 5, 90000, codedView{90000, 90000, 2, 0}},
		{9000, vec(0, 4500, 0), 0, 60000, codedView{90000, 90000, 7794, 0}}, {9000, vec(0, 4500, 7700), 0, 60000, codedView{90000, 90000, 94, 0}},
		{1000, vec(0, 0, 0), 0, 0, codedView{0, 0, 1000, 0}}, {1000, vec(998, 0, 0), 90000, 0, codedView{90000, 0, 2, 0}}, {1000, vec(998, 0, 0), 270000, 0, codedView{270000, 0, 1998, 0}}, {1000, vec(0, -998, 0), 0, 0, codedView{0, 0, 1998, 0}},
		{30000, vec(29998, 0, 0), 270000, 0, codedView{270000, 0, 59998, 0}}, {30000, vec(0, 29998, 0), 180000, 0, codedView{180000, 0, 59998, 0}}, {30000, vec(0, 0, -29998), 0, 90000, codedView{90000, 90000, 59998, 0}}, {30000, vec(0, 0, 29998), 180000, 0, codedView{180000, -44999, 42424, 0}},
	}
	for _, c := range cases {
		for _, tilt := range []int64{0, 45000} {
			d := dome(c.radius, tilt)
			checkResult(t, fmt.Sprintf("ViewFrom(%v, %v, %d, %d)", d, c.seat, c.azimuth, c.altitude), viewFrom(d, c.seat, c.azimuth, c.altitude), c.want)
		}
	}
}

// seatCase has seats of one dome, all of them inside or none.
type seatCase struct {
	radius int64
	inside bool
	seats  []impl.Vector
}

// seatCases are seats near to the end of what is inside: by one component, and by the sum of the squares, for which the comments tell the square of Radius - 1.
func seatCases() []seatCase {
	return []seatCase{
		{1000, true, []impl.Vector{{}, vec(998, 0, 0), vec(0, -998, 0), vec(0, 0, 998), vec(0, 0, -998), vec(998, 44, 0), vec(998, 44, -7)}},
		{1000, false, []impl.Vector{vec(999, 0, 0), vec(-999, 0, 0), vec(0, 999, 0), vec(0, 0, -999), vec(1000, 0, 0), vec(0, 1000, 0), vec(0, 0, 1000), vec(0, -1001, 0), vec(998, 45, 0), vec(998, 44, 8), vec(998, 998, 998)}},
		// 998001
		{1000, true, []impl.Vector{vec(502, 313, 805), vec(-502, 745, -437), vec(834, -500, -229)}},
		{1000, false, []impl.Vector{vec(509, 238, 826), vec(-826, -238, -509), vec(434, 509, 742), vec(523, 252, 813), vec(505, -447, 737)}},
		{1001, true, []impl.Vector{vec(999, 0, 0), vec(0, 0, -999)}}, {1001, false, []impl.Vector{vec(1000, 0, 0), vec(-600, 0, 800)}},
		// 80982001
		{9000, true, []impl.Vector{vec(8998, 0, 0), vec(4503, 2542, 7365), vec(-7050, -3317, 4503), vec(2330, 4501, -7436)}},
		{9000, false, []impl.Vector{vec(8999, 0, 0), vec(0, 0, 8999), vec(4506, 1853, 7566), vec(-7442, 4506, -2301), vec(4504, 1995, 7531), vec(9000, 0, 0)}},
		// 899940001
		{30000, true, []impl.Vector{vec(29998, 0, 0), vec(0, 29998, 0), vec(0, 0, -29998), vec(15040, 10988, 23516), vec(-22900, -15040, -12220), vec(15015, 9053, 24342)}},
		{30000, false, []impl.Vector{vec(29999, 0, 0), vec(0, -29999, 0), vec(0, 0, 29999), vec(15014, 6174, 25227), vec(-23886, 15014, -10197), vec(15003, 7348, 24917), vec(30000, 0, 0), vec(0, 30001, 0)}},
	}
}

// farSeats are seats beyond every limit; the squares of some of their components are 0 or small in 64 bits.
func farSeats() []impl.Vector {
	list := []impl.Vector{}
	for _, n := range []int64{30000, 2000001, 1 << 32, -1 << 32, 1 << 33, 1 << 62, 3037000500, minInt, minInt + 1, maxInt - 1, maxInt} {
		list = append(list, vec(n, 0, 0), vec(0, n, 0), vec(0, 0, n), vec(n, n, n), vec(n, -n, 5), vec(1, n, n))
	}
	return list
}

func TestP10SeatsInside(t *testing.T) {
	for _, c := range seatCases() {
		d, want := dome(c.radius, 0), int64(impl.OK)
		if !c.inside {
			want = impl.ErrState
		}
		for _, seat := range c.seats {
			for _, n := range [][2]int64{{0, 0}, {135000, 45000}, {359999, 90000}} {
				checkResult(t, fmt.Sprintf("the code of ViewFrom(%v, %v, %v)", d, seat, n), viewFrom(d, seat, n[0], n[1]).code, want)
			}
			_, code := impl.WorstView(d, seat, 45000)
			checkResult(t, fmt.Sprintf("the code of WorstView(%v, %v, 45000)", d, seat), code, want)
			if !c.inside {
				checkSeatRefused(t, d, seat)
			}
		}
	}
	for _, d := range validDomes() {
		for _, seat := range farSeats() {
			checkSeatRefused(t, d, seat)
		}
	}
}

// checkSeatRefused checks the error of a seat that is not inside, and that of a direction or a step, which comes before it.
func checkSeatRefused(t *testing.T, d impl.Dome, seat impl.Vector) {
	t.Helper()
	for _, n := range [][2]int64{{0, 0}, {135000, 45000}, {359999, 90000}} {
		checkResult(t, fmt.Sprintf("ViewFrom(%v, %v, %v)", d, seat, n), viewFrom(d, seat, n[0], n[1]), codedView{0, 0, 0, impl.ErrState})
	}
	for _, n := range [][2]int64{{0, -1}, {0, 90001}, {-1, 0}, {360000, 90000}, {minInt, maxInt}} {
		checkResult(t, fmt.Sprintf("ViewFrom(%v, %v, %v)", d, seat, n), viewFrom(d, seat, n[0], n[1]), codedView{0, 0, 0, impl.ErrRange})
	}
	for _, step := range []int64{15000, 77777, 90000} {
		checkResult(t, fmt.Sprintf("WorstView(%v, %v, %d)", d, seat, step), coded(impl.WorstView(d, seat, step)), coded(0, impl.ErrState))
	}
	for _, step := range noViewSteps() {
		checkResult(t, fmt.Sprintf("WorstView(%v, %v, %d)", d, seat, step), coded(impl.WorstView(d, seat, step)), coded(0, impl.ErrRange))
	}
}

func noViewSteps() []int64 {
	return []int64{14999, 90001, 0, 1, -1, -15000, -90000, 180000, 360000, minInt, minInt + 1, maxInt}
}

func TestP10WorstViewRefusesSteps(t *testing.T) {
	for _, d := range validDomes() {
		for _, step := range noViewSteps() {
			for _, seat := range []impl.Vector{{}, vec(998, 0, 0), vec(0, 0, -500)} {
				checkResult(t, fmt.Sprintf("WorstView(%v, %v, %d)", d, seat, step), coded(impl.WorstView(d, seat, step)), coded(0, impl.ErrRange))
			}
		}
	}
}

// plainView follows the text of the document for a seat that is inside and a direction that is up.
func plainView(sines []int64, d impl.Dome, seat impl.Vector, azimuth, altitude int64) codedView {
	p := plainPoint(sines, d, azimuth, altitude)
	way := vec(p.X-seat.X, p.Y-seat.Y, p.Z-seat.Z)
	seen := plainFloorAngles(sines, way)
	return codedView{seen.first, seen.second, plainRoot(way.X*way.X + way.Y*way.Y + way.Z*way.Z), seen.code}
}

func TestP10ViewsEverywhere(t *testing.T) {
	sines, random := allSines(), rand.New(rand.NewSource(78))
	for i, n := range upDirections(random, 1000) {
		for _, d := range []impl.Dome{dome(1000, 0), dome(30000, 45000), validDomes()[i%len(validDomes())], randomDome(random)} {
			seat := randomSeat(random, d)
			checkResult(t, fmt.Sprintf("ViewFrom(%v, %v, %v)", d, seat, n), viewFrom(d, seat, n[0], n[1]), plainView(sines, d, seat, n[0], n[1]))
		}
	}
}

// mostRounding is the greatest angle in thousandths of a degree by which the rounding of a point moves it, as seen from the middle: up to 0.87 millimetres,
// and the root for its altitude up to another one. Sines between whole degrees are less than they should be, which adds a little.
func mostRounding(radius int64) int64 { return 107000/radius + 3 }

func TestP10FromTheMiddleEverythingIsSeenWhereItIs(t *testing.T) {
	random := rand.New(rand.NewSource(79))
	for i, n := range upDirections(random, 5000) {
		for _, d := range []impl.Dome{dome(1000, 0), dome(30000, 45000), validDomes()[i%len(validDomes())], randomDome(random)} {
			seen := viewFrom(d, impl.Vector{}, n[0], n[1])
			if seen.code != impl.OK || apart(t, n[0], n[1], seen.azimuth, seen.altitude) > mostRounding(d.Radius) {
				t.Fatalf("ViewFrom(%v, the middle, %v): got %v", d, n, seen)
			}
			// Points between whole degrees are nearer by up to 76 millionths, and rounding moves them as well.
			if seen.length > d.Radius || seen.length < d.Radius-2-76*d.Radius/1000000 {
				t.Fatalf("ViewFrom(%v, the middle, %v): got the length %d", d, n, seen.length)
			}
		}
	}
	for _, d := range validDomes() {
		for _, step := range []int64{15000, 15001, 22222, 30000, 45000, 77777, 89999, 90000} {
			worst, code := impl.WorstView(d, impl.Vector{}, step)
			if code != impl.OK || worst > mostRounding(d.Radius) {
				t.Errorf("WorstView(%v, the middle, %d): got %d, %d", d, step, worst, code)
			}
		}
	}
}

func TestP10WorstViewCases(t *testing.T) {
	cases := []struct {
		radius int64
		seat   impl.Vector
		step   int64
		want   int64
	}{
		{9000, vec(3000, 0, 0), 45000, 19108}, {9000, vec(0, 0, 0), 45000, 4}, {9000, vec(0, 0, 0), 90000, 0}, {1000, vec(0, 0, 0), 90000, 0}, {30000, vec(0, 0, 0), 90000, 0},
		// Only at the zenith, at the azimuth 270000, and at the altitude 0.
		{9000, vec(6000, 0, 1000), 90000, 36870}, {9000, vec(-1000, 6000, 0), 90000, 36870}, {9000, vec(0, 0, 5000), 90000, 29055}, {9000, vec(0, 0, -5000), 90000, 29055},
		// From just below the zenith, directions between the steps of 90000 would be worse.
		{9000, vec(8998, 0, 0), 90000, 44994}, {9000, vec(0, 0, 8998), 90000, 44994}, {9000, vec(0, 0, 8998), 15000, 82461}, {30000, vec(0, 0, 29998), 90000, 44999}, {1000, vec(0, 0, -998), 90000, 44943},
	}
	for _, c := range cases {
		for _, tilt := range []int64{0, 45000} {
			d := dome(c.radius, tilt)
			checkResult(t, fmt.Sprintf("WorstView(%v, %v, %d)", d, c.seat, c.step), coded(impl.WorstView(d, c.seat, c.step)), coded(c.want, impl.OK))
		}
	}
}

// plainWorst looks at the same directions in another order, the last ones first.
func plainWorst(sines []int64, d impl.Dome, seat impl.Vector, step int64) codedNumber {
	worst := int64(0)
	for azimuth := 359999 / step * step; azimuth >= 0; azimuth -= step {
		for altitude := 90000 / step * step; altitude >= 0; altitude -= step {
			seen := plainView(sines, d, seat, azimuth, altitude)
			worst = max(worst, plainApart(sines, azimuth, altitude, seen.azimuth, seen.altitude))
		}
	}
	return coded(worst, impl.OK)
}

func TestP10WorstViewsEverywhere(t *testing.T) {
	sines, random := allSines(), rand.New(rand.NewSource(80))
	// Steps that divide Circle and 90000, one of them, or neither.
	steps := []int64{15000, 18000, 22500, 30000, 45000, 90000, 40000, 60000, 72000, 15001, 16384, 25000, 44999, 45001, 59999, 77777, 80000, 89999}
	for i, step := range append(steps, steps...) {
		d := []impl.Dome{dome(1000, 0), dome(30000, 45000), randomDome(random)}[i%3]
		seat := randomSeat(random, d)
		checkResult(t, fmt.Sprintf("WorstView(%v, %v, %d)", d, seat, step), coded(impl.WorstView(d, seat, step)), plainWorst(sines, d, seat, step))
	}
	for range 100 {
		d, step := randomDome(random), 15000+random.Int63n(75001)
		if random.Intn(2) == 0 {
			step = 45000 + random.Int63n(45001)
		}
		seat := randomSeat(random, d)
		checkResult(t, fmt.Sprintf("WorstView(%v, %v, %d)", d, seat, step), coded(impl.WorstView(d, seat, step)), plainWorst(sines, d, seat, step))
	}
}

// domesWithSeatsAtPoints are domes with a direction whose point is a place of a seat inside, and a step that leads to this direction:
// a few points between whole degrees are nearer to the middle than Radius - 1.
func domesWithSeatsAtPoints() []pointCase {
	return []pointCase{
		{dome(30000, 0), 500, 500, 0}, {dome(30000, 0), 45500, 30500, 0}, {dome(30000, 0), 180500, 10500, 0}, {dome(30000, 0), 0, 46500, 15500}, {dome(30000, 30000), 0, 46500, 46500},
		{dome(30000, 0), 255119, 15007, 15007}, {dome(5000, 45000), 60412, 30206, 15103}, {dome(10000, 0), 315567, 0, 15027},
	}
}

// pointCase is a dome with a direction; its step is 0 if no step leads to the direction.
type pointCase struct {
	d                       impl.Dome
	azimuth, altitude, step int64
}

func TestP10SeatsAtAPointOfTheDome(t *testing.T) {
	sines := allSines()
	for _, c := range domesWithSeatsAtPoints() {
		seat, code := impl.DomePoint(c.d, c.azimuth, c.altitude)
		call := fmt.Sprintf("(%v, %v, %d, %d)", c.d, seat, c.azimuth, c.altitude)
		checkResult(t, "the code of DomePoint"+call, code, int64(impl.OK))
		checkResult(t, "ViewFrom"+call, viewFrom(c.d, seat, c.azimuth, c.altitude), codedView{90000, 0, 0, impl.OK})
		checkResult(t, "ViewFrom below the floor"+call, viewFrom(c.d, seat, c.azimuth, -1), codedView{0, 0, 0, impl.ErrRange})
		for _, n := range [][2]int64{{c.azimuth, 90000}, {0, 0}, {90000, 0}, {c.azimuth, c.altitude + 1}} {
			checkResult(t, fmt.Sprintf("ViewFrom%s, %v", call, n), viewFrom(c.d, seat, n[0], n[1]), plainView(sines, c.d, seat, n[0], n[1]))
		}
		for _, step := range []int64{c.step, 15000, 46500, 90000} {
			if step > 0 {
				checkResult(t, fmt.Sprintf("WorstView%s, %d", call, step), coded(impl.WorstView(c.d, seat, step)), plainWorst(sines, c.d, seat, step))
			}
		}
	}
}

// What is seen from its own point is seen to the right at the horizon, even if this is the worst view of all.
func TestP10WorstViewsFromAPointOfTheDome(t *testing.T) {
	for _, c := range []struct {
		d          impl.Dome
		seat       impl.Vector
		step, want int64
	}{{dome(30000, 0), vec(0, 20650, 21760), 15500, 90000}, {dome(30000, 45000), vec(0, 20650, 21760), 46500, 90000}} {
		checkResult(t, fmt.Sprintf("WorstView(%v, %v, %d)", c.d, c.seat, c.step), coded(impl.WorstView(c.d, c.seat, c.step)), coded(c.want, impl.OK))
	}
}

// Promise 10: texts.

var domeTexts = textForm[impl.Dome]{"Dome", impl.DomeText, impl.ReadDome}

func TestP10DomeIsReadBack(t *testing.T) {
	cases := []struct {
		d    impl.Dome
		text string
	}{
		{impl.Dome{Name: "main", Radius: 9000}, "main 9000,0"}, {dome(1000, 0), "a 1000,0"}, {dome(30000, 45000), "a 30000,45000"}, {dome(1001, 1), "a 1001,1"},
		{impl.Dome{Name: "abcdefghij", Radius: 29999, Tilt: 44999}, "abcdefghij 29999,44999"}, {impl.Dome{Name: "z9", Radius: 12345, Tilt: 500}, "z9 12345,500"},
	}
	for _, c := range cases {
		domeTexts.checkReadBack(t, c.d, c.text)
	}
	random := rand.New(rand.NewSource(81))
	for range 500 {
		d := randomDome(random)
		domeTexts.checkReadBack(t, d, fmt.Sprintf("%s %d,%d", d.Name, d.Radius, d.Tilt))
	}
}

func TestP10DomeTextRefuses(t *testing.T) { domeTexts.checkNoTexts(t, invalidDomes()) }

func TestP10ReadDomeRefuses(t *testing.T) {
	texts := []string{
		"a 999,0", "a 30001,0", "a 1000,-1", "a 1000,45001", "a -1000,0", "a 0,0", "a 1000,360000",
		"a", "a ", "a -", "a 1000", "a 1000,", "a ,0", "a 1000,0,", "a 1000,0,0", "a ,1000,0", "a 1000,,0", "a 1000,0 ", " a 1000,0", "a  1000,0", "a 1000, 0", "a 1000 ,0", "a 1000 0",
		"a,1000,0", "a b 1000,0", "a 1000,0 b", "1000,0", " 1000,0", "1000,0 a", "a\t1000,0", "a 1000,0\n", "a\n1000,0", "a\u00a01000,0", "a 1000;0", "a1000,0", "a 1000,0 1000,0",
	}
	for _, word := range noNumbers() {
		texts = append(texts, "a "+word+",0", "a 1000,"+word)
	}
	for _, name := range invalidNames() {
		texts = append(texts, name+" 1000,0")
	}
	texts = append(texts, "a "+strings.Repeat("1", 10000)+",0", "a 1000"+strings.Repeat(",1", 10000), strings.Repeat("a", 10000)+" 1000,0", "a"+strings.Repeat(" 1000,0", 1000))
	domeTexts.checkNotRead(t, append(texts, edgeTexts()...))
}

func TestP10ReadDomeRefusesChangedBytes(t *testing.T) {
	domeTexts.checkChanged(t, "main 12345,30000")
	domeTexts.checkNoParts(t, "main 12345,3")
}
