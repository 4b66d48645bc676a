package tests

import (
	"fmt"
	"math/rand"
	"strings"
	"testing"

	"loop.example/g00955/impl"
)

func planet(name string, period, radius, start int64) impl.Planet {
	return impl.Planet{Name: name, Period: period, Radius: radius, Start: start}
}

var (
	mercury = planet("mercury", 87969, 387, 252000)
	venus   = planet("venus", 224701, 723, 181979)
	earth   = planet("earth", 365256, 1000, 0)
	mars    = planet("mars", 686980, 1524, 90000)
	neptune = planet("neptune", 60182000, 30070, 304880)
)

// nearEnd is the last day on which something may still happen on the next one.
var nearEnd = impl.Moment{Day: impl.MaxDay - 1, Milli: impl.MilliDay - 1}

// validPlanets are planets with usual numbers and with those at the ends of their ranges.
func validPlanets() []impl.Planet {
	return []impl.Planet{
		mercury, venus, earth, mars, neptune, planet("a", 1000, 1, 0), planet("b", 100000000, 50000, 359999), planet("c", 1000, 50000, 180000),
		planet("d", 100000000, 1, 90000), planet("abcdefghij", 99999999, 49999, 1), planet("z9", 1001, 2, 270000), planet("twin", 365256, 1000, 180000),
	}
}

// invalidPlanets are planets with one field that no planet has.
func invalidPlanets() []impl.Planet {
	list := []impl.Planet{{}}
	for _, name := range invalidNames() {
		list = append(list, planet(name, 1000, 1, 0))
	}
	for _, n := range []int64{999, 100000001, 0, -1, -1000, 1000000000, minInt, maxInt} {
		list = append(list, planet("a", n, 1, 0))
	}
	for _, n := range []int64{0, 50001, -1, -1000, 100000, minInt, maxInt} {
		list = append(list, planet("a", 1000, n, 0))
	}
	for _, n := range noTurns() {
		list = append(list, planet("a", 1000, 1, n))
	}
	return list
}

func randomPlanet(random *rand.Rand) impl.Planet {
	period := 1000 + random.Int63n(1000000)
	switch random.Intn(4) {
	case 0:
		period = 1000 + random.Int63n(99999001)
	case 1:
		period = 1000 * (1 + random.Int63n(4))
	}
	return planet("a", period, 1+random.Int63n([]int64{3, 2000, 50000}[random.Intn(3)]), randomRight(random))
}

func randomMoment(random *rand.Rand) impl.Moment {
	if random.Intn(3) == 0 {
		return impl.Moment{Day: random.Int63n(1000)}
	}
	return momentAt(random.Int63n(allMillis))
}

// planetCalls are those of all functions of planets and a moment.
func planetCalls(p, q, from impl.Planet, m impl.Moment, days int64) []horizonCall {
	one, two := fmt.Sprintf("(%v, %v)", p, m), fmt.Sprintf("(%v, %v, %v)", p, from, m)
	return []horizonCall{
		{"OrbitAngle" + one, coded(impl.OrbitAngle(p, m))},
		{"PlaceInOrbit" + one, codedBoth(impl.PlaceInOrbit(p, m))},
		{"SeenAngle" + two, coded(impl.SeenAngle(p, from, m))},
		{"SeenDistance" + two, coded(impl.SeenDistance(p, from, m))},
		{"Elongation" + two, coded(impl.Elongation(p, from, m))},
		{"PhaseOf" + two, coded(impl.PhaseOf(p, from, m))},
		{fmt.Sprintf("NearestDay(%v, %v, %v, %v, %d)", p, q, from, m, days), codedBoth(impl.NearestDay(p, q, from, m, days))},
	}
}

// Promise 1, for the functions of chapter 7.

func TestP1PlanetsReturnEqualResults(t *testing.T) {
	planets, moments := append(validPlanets(), invalidPlanets()...), append(validMoments(), invalidMoments()...)
	for i, p := range planets {
		for k, m := range moments {
			q, from, days := planets[(3*i+k)%len(planets)], planets[(5*i+7*k)%len(planets)], edgeNumbers()[(i+k)%len(edgeNumbers())]
			checkRepeats(t, fmt.Sprintf("functions of the planets %v, %v, %v, the moment %v and %d days", p, q, from, m, days), func() []any {
				results := []any{
					impl.ValidPlanet(p), impl.ValidPlanets([]impl.Planet{p, q, from}), impl.PlanetText(p), coded(impl.SynodicPeriod(p, q)), impl.IsRetrograde(p, from, m),
					codedBoth(impl.NearestDay(earth, mars, venus, m, days)), codedBoth(impl.NearestDay(earth, mars, venus, firstMoment, days)),
				}
				for _, c := range planetCalls(p, q, from, m, 3) {
					results = append(results, c.result)
				}
				return results
			})
		}
	}
	for _, s := range edgeTexts() {
		checkRepeats(t, fmt.Sprintf("functions of the text %.40q", s), func() []any {
			p, ok := impl.ReadPlanet(s)
			named := planet(s, 1000, 1, 0)
			return []any{p, ok, impl.ValidPlanet(named), impl.PlanetText(named), impl.ValidPlanets([]impl.Planet{named})}
		})
	}
}

func TestP1ValidPlanetsKeepsItsArgument(t *testing.T) {
	for _, list := range [][]impl.Planet{nil, {earth}, {earth, mars}, {mars, earth}, {earth, earth}, invalidPlanets(), make([]impl.Planet, 11), planetsOf(10), planetsOf(11)} {
		checkListKept(t, fmt.Sprintf("ValidPlanets(%v)", list), list, []impl.Planet{mars, {}, venus}, func(l []impl.Planet) { impl.ValidPlanets(l) })
	}
}

// Promise 8: valid planets.

func TestP8PlanetConstants(t *testing.T) {
	checkResult(t, "constants", []int64{impl.MaxPlanets, impl.MaxPeriod, impl.MaxOrbit, impl.MaxSpan}, []int64{10, 100000000, 50000, 1000})
}

func TestP8ValidPlanet(t *testing.T) {
	planets := validPlanets()
	for _, n := range []int64{1000, 1001, 99999999, 100000000} {
		planets = append(planets, planet("a", n, 1, 0))
	}
	for _, n := range []int64{1, 2, 49999, 50000} {
		planets = append(planets, planet("a", 1000, n, 0))
	}
	for _, n := range edgeTurns() {
		planets = append(planets, planet("a", 1000, 1, n))
	}
	for _, p := range planets {
		checkResult(t, fmt.Sprintf("ValidPlanet(%v)", p), impl.ValidPlanet(p), true)
	}
	for _, p := range invalidPlanets() {
		checkResult(t, fmt.Sprintf("ValidPlanet(%q)", fmt.Sprint(p)), impl.ValidPlanet(p), false)
	}
}

// planetsOf returns planets with strictly increasing names.
func planetsOf(count int) []impl.Planet {
	list := []impl.Planet{}
	for i := range count {
		list = append(list, planet(numberedName(i), 1000, 1, 0))
	}
	return list
}

func TestP8ValidPlanets(t *testing.T) {
	named := func(names ...string) []impl.Planet {
		list := []impl.Planet{}
		for _, name := range names {
			list = append(list, planet(name, 1000, 1, 0))
		}
		return list
	}
	for _, list := range [][]impl.Planet{
		nil, {}, {earth}, {earth, mars}, {earth, mars, mercury, neptune, venus}, planetsOf(9), planetsOf(10), named("a", "a0", "aa", "b"), named("s10", "s11", "s9"),
	} {
		checkResult(t, fmt.Sprintf("ValidPlanets(%v)", list), impl.ValidPlanets(list), true)
	}
	for _, list := range [][]impl.Planet{
		planetsOf(11), planetsOf(100), make([]impl.Planet, 10), make([]impl.Planet, 11), {mars, earth}, {earth, earth}, {earth, mars, mars}, {earth, mars, earth},
		named("a", "a"), named("b", "a"), named("a", "c", "b"), named("a", "b", "b"), named("s9", "s10"), named("ab", "a"), {earth, planet("earth", 1000, 1, 0)},
	} {
		checkResult(t, fmt.Sprintf("ValidPlanets(%v)", list), impl.ValidPlanets(list), false)
	}
	for _, p := range invalidPlanets() {
		for _, list := range [][]impl.Planet{{p}, {p, venus}, {planet("0", 1000, 1, 0), p}, {earth, p}} {
			checkResult(t, fmt.Sprintf("ValidPlanets(%q)", fmt.Sprint(list)), impl.ValidPlanets(list), false)
		}
	}
}

func TestP8InvalidPlanetsAreRefusedFirst(t *testing.T) {
	for _, p := range invalidPlanets() {
		for _, m := range []impl.Moment{firstMoment, lastMoment, {Day: -1}} {
			checkRefused(t, planetCalls(p, earth, mars, m, 0), impl.ErrInvalid)
			checkRefused(t, planetCalls(p, p, p, m, -1), impl.ErrInvalid)
			checkRefused(t, planetCalls(earth, mars, p, m, 1001)[2:], impl.ErrInvalid)
			checkRefused(t, planetCalls(earth, p, mars, m, 0)[6:], impl.ErrInvalid)
			for _, pair := range [][2]impl.Planet{{p, earth}, {earth, p}, {p, p}} {
				checkResult(t, fmt.Sprintf("IsRetrograde(%v, %v)", pair, m), impl.IsRetrograde(pair[0], pair[1], m), false)
				checkResult(t, fmt.Sprintf("SynodicPeriod(%v)", pair), coded(impl.SynodicPeriod(pair[0], pair[1])), coded(0, impl.ErrInvalid))
			}
		}
	}
}

func TestP8InvalidMomentsAreRefusedFirst(t *testing.T) {
	for _, m := range invalidMoments() {
		for _, days := range []int64{0, 1, 1000, 1001, -1, minInt, maxInt} {
			checkRefused(t, planetCalls(earth, mars, venus, m, days), impl.ErrInvalid)
			checkRefused(t, planetCalls(earth, earth, earth, m, days), impl.ErrInvalid)
		}
		for _, p := range validPlanets() {
			checkResult(t, fmt.Sprintf("IsRetrograde(%v, earth, %v)", p, m), impl.IsRetrograde(p, earth, m), false)
			checkResult(t, fmt.Sprintf("IsRetrograde(%v, itself, %v)", p, m), impl.IsRetrograde(p, p, m), false)
		}
	}
}

// Promise 8: orbits.

func TestP8OrbitCases(t *testing.T) {
	cases := []struct {
		p    impl.Planet
		m    impl.Moment
		want int64
	}{
		{earth, firstMoment, 0}, {mars, firstMoment, 90000}, {planet("a", 1000, 1, 359999), firstMoment, 359999}, {earth, impl.Moment{Day: 100}, 98561}, {earth, impl.Moment{Milli: 87661}, 0}, {earth, impl.Moment{Milli: 87662}, 1},
		// The shortest period is a day, in which 240 milliseconds are a thousandth of a degree.
		{planet("a", 1000, 1, 0), impl.Moment{Milli: 239}, 0}, {planet("a", 1000, 1, 0), impl.Moment{Milli: 240}, 1}, {planet("a", 1000, 1, 0), impl.Moment{Milli: 86399999}, 359999},
		{planet("a", 1000, 1, 0), impl.Moment{Day: 1}, 0}, {planet("a", 1000, 1, 0), impl.Moment{Day: 99999}, 0}, {planet("a", 1000, 1, 0), lastMoment, 359999}, {planet("a", 1000, 1, 359999), lastMoment, 359998},
		{planet("a", 1000, 1, 5), impl.Moment{Day: 777, Milli: 43200000}, 180005}, {planet("a", 1000, 1, 180000), impl.Moment{Day: 777, Milli: 43200000}, 0}, {planet("a", 1001, 1, 0), impl.Moment{Day: 1}, 359640}, {planet("a", 1001, 1, 0), impl.Moment{Day: 1001}, 0},
		// In the longest one, a thousandth of a degree takes 24000000 milliseconds.
		{planet("a", 100000000, 1, 0), impl.Moment{Milli: 23999999}, 0}, {planet("a", 100000000, 1, 0), impl.Moment{Milli: 24000000}, 1}, {planet("a", 100000000, 1, 0), lastMoment, 359999},
		{planet("a", 100000000, 1, 1), lastMoment, 0}, {planet("a", 100000000, 1, 359999), lastMoment, 359998}, {planet("a", 100000000, 1, 0), impl.Moment{Day: 50000}, 180000}, {planet("a", 99999000, 1, 7), impl.Moment{Day: 99999}, 7},
		{planet("a", 99999000, 1, 7), impl.Moment{Day: 99998, Milli: 86399999}, 6}, {planet("a", 2000, 1, 0), impl.Moment{Day: 1}, 180000}, {planet("a", 2000, 1, 0), impl.Moment{Day: 2}, 0}, {planet("a", 4000, 1, 300000), impl.Moment{Day: 1}, 30000},
	}
	for _, c := range cases {
		checkResult(t, fmt.Sprintf("OrbitAngle(%v, %v)", c.p, c.m), coded(impl.OrbitAngle(c.p, c.m)), coded(c.want, impl.OK))
	}
}

func TestP8PlaceCases(t *testing.T) {
	cases := []struct {
		p    impl.Planet
		m    impl.Moment
		x, y int64
	}{
		{earth, firstMoment, 1000000, 0}, {mars, firstMoment, 0, 1524000}, {planet("a", 1000, 1, 0), firstMoment, 1000, 0}, {planet("a", 1000, 50000, 180000), firstMoment, -50000000, 0},
		{planet("a", 1000, 50000, 270000), firstMoment, 0, -50000000}, {planet("a", 1000, 1, 30000), firstMoment, 866, 500}, {planet("a", 1000, 1, 60000), firstMoment, 500, 866}, {planet("a", 1000, 1, 210000), firstMoment, -866, -500},
		{planet("a", 1000, 3, 45000), firstMoment, 2121, 2121}, {planet("a", 1000, 2, 10000), firstMoment, 1970, 347}, {planet("a", 1000, 1, 44000), firstMoment, 719, 695}, {planet("a", 1000, 1, 136000), firstMoment, -719, 695},
		{planet("a", 1000, 1000, 0), impl.Moment{Milli: 43200000}, -1000000, 0}, {planet("a", 2000, 1000, 0), impl.Moment{Day: 1}, -1000000, 0}, {planet("a", 4000, 1000, 0), impl.Moment{Day: 1}, 0, 1000000}, {planet("a", 4000, 1000, 0), impl.Moment{Day: 3}, 0, -1000000},
		{planet("a", 1000, 1000, 30000), impl.Moment{Day: 99999}, 866025, 500000}, {planet("a", 100000000, 50000, 1), lastMoment, 50000000, 0}, {planet("a", 100000000, 50000, 0), lastMoment, 50000000, -850},
	}
	for _, c := range cases {
		checkResult(t, fmt.Sprintf("PlaceInOrbit(%v, %v)", c.p, c.m), codedBoth(impl.PlaceInOrbit(c.p, c.m)), codedBoth(c.x, c.y, impl.OK))
	}
}

// plainOrbit follows the text of the document.
func plainOrbit(p impl.Planet, m impl.Moment) int64 {
	return plainForwards(0, p.Start+plainPart(millisOf(m), 360000, p.Period*86400))
}

func plainPlace(sines []int64, p impl.Planet, m impl.Moment) [2]int64 {
	angle := plainOrbit(p, m)
	return [2]int64{plainQuotient(p.Radius*sines[plainForwards(-90000, angle)], 1000), plainQuotient(p.Radius*sines[angle], 1000)}
}

func TestP8OrbitsEverywhere(t *testing.T) {
	sines, random := allSines(), rand.New(rand.NewSource(50))
	check := func(p impl.Planet, m impl.Moment) {
		place := plainPlace(sines, p, m)
		checkResult(t, fmt.Sprintf("OrbitAngle(%v, %v)", p, m), coded(impl.OrbitAngle(p, m)), coded(plainOrbit(p, m), impl.OK))
		checkResult(t, fmt.Sprintf("PlaceInOrbit(%v, %v)", p, m), codedBoth(impl.PlaceInOrbit(p, m)), codedBoth(place[0], place[1], impl.OK))
	}
	for _, p := range validPlanets() {
		for _, m := range validMoments() {
			check(p, m)
		}
	}
	for range 5000 {
		check(randomPlanet(random), randomMoment(random))
	}
}

func TestP8PlanetsAreBackAfterAPeriod(t *testing.T) {
	random := rand.New(rand.NewSource(51))
	planets := validPlanets()
	for range 500 {
		planets = append(planets, randomPlanet(random))
	}
	for _, p := range planets {
		for _, m := range append(validMoments(), randomMoment(random), randomMoment(random)) {
			later, code := impl.MomentAfter(m, p.Period*86400)
			if code != impl.OK {
				continue
			}
			call := fmt.Sprintf("of %v at %v and a period later", p, m)
			checkResult(t, "OrbitAngle "+call, coded(impl.OrbitAngle(p, later)), coded(impl.OrbitAngle(p, m)))
			checkResult(t, "PlaceInOrbit "+call, codedBoth(impl.PlaceInOrbit(p, later)), codedBoth(impl.PlaceInOrbit(p, m)))
		}
		// A millisecond before the first period is over, the planet is not yet back.
		if end, code := impl.MomentAfter(firstMoment, p.Period*86400-1); code == impl.OK {
			checkResult(t, fmt.Sprintf("OrbitAngle(%v, %v)", p, end), coded(impl.OrbitAngle(p, end)), coded((p.Start+359999)%360000, impl.OK))
		}
	}
}

func TestP8SynodicPeriod(t *testing.T) {
	cases := []struct{ a, b, want int64 }{
		{365256, 686980, 779934}, {365256, 224701, 583924}, {1000, 100000000, 1000}, {1000, 1001, 1001000}, {1000, 2000, 2000}, {1000, 3000, 1500}, {2000, 3000, 6000},
		{1000, 1003, 334333}, {1001, 1003, 502002}, {1000, 4000, 1333}, {2000, 5000, 3333}, {1001, 1004, 335001},
		// Products greater than MaxValue, up to that of the longest periods.
		{1000000, 999999, 999999000000}, {1000000, 1000001, 1000001000000}, {100000000, 99999999, 9999999900000000}, {100000000, 99999998, 4999999900000000}, {100000000, 50000000, 100000000}, {10000000, 200000, 204082}, {4332589, 10759220, 7253455},
	}
	for _, c := range cases {
		for _, p := range [][2]int64{{c.a, c.b}, {c.b, c.a}} {
			a, b := planet("a", p[0], 1, 0), planet("b", p[1], 50000, 77)
			checkResult(t, fmt.Sprintf("SynodicPeriod(%v, %v)", a, b), coded(impl.SynodicPeriod(a, b)), coded(c.want, impl.OK))
		}
	}
	for _, period := range []int64{1000, 1001, 365256, 1000000, 99999999, 100000000} {
		a, b := planet("a", period, 1, 0), planet("b", period, 2, 5)
		checkResult(t, fmt.Sprintf("SynodicPeriod(%v, %v)", a, b), coded(impl.SynodicPeriod(a, b)), coded(0, impl.ErrState))
		checkResult(t, fmt.Sprintf("SynodicPeriod(%v, itself)", a), coded(impl.SynodicPeriod(a, a)), coded(0, impl.ErrState))
	}
	random := rand.New(rand.NewSource(52))
	for range 2000 {
		a, b := randomPlanet(random), randomPlanet(random)
		want := coded(0, impl.ErrState)
		if a.Period != b.Period {
			want = coded(plainQuotient(a.Period*b.Period, sizeOf(a.Period-b.Period)), impl.OK)
		}
		checkResult(t, fmt.Sprintf("SynodicPeriod(%v, %v)", a, b), coded(impl.SynodicPeriod(a, b)), want)
	}
}

// Promise 8: what is seen.

// resting returns a planet that is where it starts at each beginning of a day.
func resting(radius, start int64) impl.Planet { return planet("a", 1000, radius, start) }

func TestP8SeenCases(t *testing.T) {
	cases := []struct {
		p, from                            impl.Planet
		angle, distance, elongation, light int64
	}{
		// From inside: behind the sun, in opposition, and beside the sun.
		{resting(2000, 180000), resting(1000, 0), 180000, 3000000, 0, 1000}, {resting(2000, 0), resting(1000, 0), 0, 1000000, 180000, 1000},
		{resting(2000, 60000), resting(1000, 0), 90000, 1732050, 90000, 933}, {resting(2000, 300000), resting(1000, 0), 270000, 1732050, 90000, 933},
		// From outside: behind the sun, before it, and beside it.
		{resting(1000, 180000), resting(2000, 0), 180000, 3000000, 0, 1000}, {resting(1000, 0), resting(2000, 0), 180000, 1000000, 0, 0},
		{resting(1000, 60000), resting(2000, 0), 150000, 1732050, 30000, 500}, {resting(1000, 300000), resting(2000, 0), 210000, 1732050, 30000, 500},
		// On the same orbit.
		{resting(1000, 180000), resting(1000, 0), 180000, 2000000, 0, 1000}, {resting(1000, 90000), resting(1000, 0), 135000, 1414213, 45000, 854}, {resting(1000, 60000), resting(1000, 0), 120000, 999999, 60000, 750},
		{resting(1000, 0), resting(1000, 90000), 315000, 1414213, 45000, 854}, {resting(50000, 0), resting(50000, 180000), 0, 100000000, 0, 1000}, {resting(1, 90000), resting(1, 270000), 90000, 2000, 0, 1000},
		{resting(50000, 90000), resting(1, 0), 90002, 50000000, 89998, 1000}, {resting(1, 90000), resting(50000, 0), 179998, 50000000, 2, 500},
	}
	for _, c := range cases {
		for _, day := range []int64{0, 1, 36525, impl.MaxDay} {
			m := impl.Moment{Day: day}
			call := fmt.Sprintf("of %v from %v at %v", c.p, c.from, m)
			checkResult(t, "SeenAngle "+call, coded(impl.SeenAngle(c.p, c.from, m)), coded(c.angle, impl.OK))
			checkResult(t, "SeenDistance "+call, coded(impl.SeenDistance(c.p, c.from, m)), coded(c.distance, impl.OK))
			checkResult(t, "Elongation "+call, coded(impl.Elongation(c.p, c.from, m)), coded(c.elongation, impl.OK))
			checkResult(t, "PhaseOf "+call, coded(impl.PhaseOf(c.p, c.from, m)), coded(c.light, impl.OK))
		}
	}
}

func TestP8PlanetsAtTheSamePlaceAreNotSeen(t *testing.T) {
	for _, p := range validPlanets() {
		twin := planet("twin", p.Period, p.Radius, p.Start)
		for _, m := range validMoments() {
			for _, from := range []impl.Planet{p, twin} {
				checkRefused(t, planetCalls(p, p, from, m, 0)[2:6], impl.ErrState)
				checkRefused(t, planetCalls(from, p, p, m, 0)[2:6], impl.ErrState)
				checkRefused(t, planetCalls(p, from, from, m, 0)[6:], impl.ErrNotFound)
				checkResult(t, fmt.Sprintf("IsRetrograde(%v, %v, %v)", p, from, m), impl.IsRetrograde(p, from, m), false)
			}
		}
	}
	// Different planets may meet, and small orbits have fewer places than angles.
	meet := [2]impl.Planet{planet("a", 2000, 1000, 0), planet("b", 1000, 1000, 0)}
	checkRefused(t, planetCalls(meet[0], meet[1], meet[1], firstMoment, 0)[2:6], impl.ErrState)
	checkRefused(t, planetCalls(meet[1], meet[0], meet[0], impl.Moment{Day: 2}, 0)[2:6], impl.ErrState)
	checkRefused(t, planetCalls(resting(1, 0), earth, resting(1, 28), firstMoment, 0)[2:6], impl.ErrState)
	checkResult(t, "SeenDistance of planets that have met", coded(impl.SeenDistance(meet[0], meet[1], impl.Moment{Day: 1})), coded(2000000, impl.OK))
	checkResult(t, "SeenDistance of near planets", coded(impl.SeenDistance(resting(1, 0), resting(1, 29), firstMoment)), coded(1, impl.OK))
}

// seen is what is seen of a planet.
type seen struct{ angle, distance, elongation, light codedNumber }

func seenOf(p, from impl.Planet, m impl.Moment) seen {
	return seen{coded(impl.SeenAngle(p, from, m)), coded(impl.SeenDistance(p, from, m)), coded(impl.Elongation(p, from, m)), coded(impl.PhaseOf(p, from, m))}
}

// plainBetween returns the lesser angle between two angles.
func plainBetween(a, b int64) int64 { return min(plainForwards(a, b), plainForwards(b, a)) }

// plainSeen follows the text of the document.
func plainSeen(sines []int64, p, from impl.Planet, m impl.Moment) seen {
	there, here := plainPlace(sines, p, m), plainPlace(sines, from, m)
	x, y := there[0]-here[0], there[1]-here[1]
	if x == 0 && y == 0 {
		none := coded(0, impl.ErrState)
		return seen{none, none, none, none}
	}
	angle, back := plainTangent(sines, y, x), plainTangent(sines, -y, -x)
	lit := plainBetween(plainOrbit(p, m)+180000, back)
	return seen{
		coded(angle, impl.OK), coded(plainRoot(x*x+y*y), impl.OK), coded(plainBetween(angle, plainOrbit(from, m)+180000), impl.OK),
		coded(plainQuotient(1000*(1000000+sines[plainForwards(-90000, lit)]), 2000000), impl.OK),
	}
}

func TestP8SeenEverywhere(t *testing.T) {
	sines, random := allSines(), rand.New(rand.NewSource(53))
	check := func(p, from impl.Planet, m impl.Moment) {
		checkResult(t, fmt.Sprintf("what is seen of %v from %v at %v", p, from, m), seenOf(p, from, m), plainSeen(sines, p, from, m))
	}
	for _, p := range validPlanets() {
		for _, from := range validPlanets() {
			for _, m := range validMoments() {
				check(p, from, m)
			}
		}
	}
	for range 2000 {
		check(randomPlanet(random), randomPlanet(random), randomMoment(random))
	}
}

func TestP8OppositeViewsAreOpposite(t *testing.T) {
	random := rand.New(rand.NewSource(54))
	check := func(p, from impl.Planet, m impl.Moment) {
		there, back := seenOf(p, from, m), seenOf(from, p, m)
		call := fmt.Sprintf("of %v from %v at %v, and back", p, from, m)
		checkResult(t, "SeenDistance "+call, there.distance, back.distance)
		checkResult(t, "the code of SeenAngle "+call, there.angle.code, back.angle.code)
		if there.angle.code == impl.OK {
			checkResult(t, "SeenAngle "+call, there.angle.value, (back.angle.value+180000)%360000)
			// What is lit depends on how far the sun is from the other planet on the sky of this one.
			checkResult(t, "PhaseOf "+call, there.light, coded(impl.DivRound(1000*(impl.Unit+impl.CosineOf(back.elongation.value)), 2*impl.Unit), impl.OK))
		}
	}
	for _, p := range validPlanets() {
		for _, from := range validPlanets() {
			for _, m := range validMoments() {
				check(p, from, m)
			}
		}
	}
	for range 3000 {
		check(randomPlanet(random), randomPlanet(random), randomMoment(random))
	}
}

func TestP8RetrogradeCases(t *testing.T) {
	cases := []struct {
		p, from impl.Planet
		m       impl.Moment
		want    bool
	}{
		// Earth overtakes mars about the day 192.
		{mars, earth, impl.Moment{Day: 140}, false}, {mars, earth, impl.Moment{Day: 160}, true}, {mars, earth, impl.Moment{Day: 192}, true}, {mars, earth, impl.Moment{Day: 220}, true}, {mars, earth, impl.Moment{Day: 240}, false},
		{earth, mars, impl.Moment{Day: 192}, true}, {earth, mars, impl.Moment{Day: 240}, false}, {mars, earth, firstMoment, false},
		// Planets that are at each beginning of a day where they were.
		{resting(1000, 0), resting(2000, 0), firstMoment, false}, {resting(1000, 0), resting(2000, 90000), impl.Moment{Day: 5, Milli: 7}, false},
		// A turn by just half a circle leads forwards, one by more leads backwards; and some lead over the direction 0.
		{planet("b", 2000, 2000, 0), resting(1, 90000), firstMoment, true}, {planet("b", 2000, 2000, 0), resting(1, 270000), firstMoment, false}, {planet("b", 2000, 3, 0), resting(1, 0), firstMoment, false}, {planet("b", 2000, 3, 180000), resting(1, 0), firstMoment, false},
		{planet("b", 4000, 1000, 0), resting(1, 0), firstMoment, false}, {planet("b", 1334, 1000, 0), resting(1, 0), firstMoment, true}, {planet("b", 1334, 1000, 45000), resting(1, 0), firstMoment, true}, {planet("b", 4000, 1000, 315000), resting(1, 0), firstMoment, false},
		{planet("b", 1999, 1000, 0), resting(1, 0), firstMoment, true}, {planet("b", 2001, 1000, 0), resting(1, 0), firstMoment, false},
		// The planets are at the same place now, or a day later.
		{planet("a", 1333, 1000, 0), resting(1000, 0), firstMoment, false}, {planet("a", 2000, 1000, 180000), resting(1000, 0), firstMoment, false}, {planet("a", 1334, 1000, 90000), resting(1000, 0), impl.Moment{Day: 1}, true},
	}
	for _, c := range cases {
		checkResult(t, fmt.Sprintf("IsRetrograde(%v, %v, %v)", c.p, c.from, c.m), impl.IsRetrograde(c.p, c.from, c.m), c.want)
	}
}

func TestP8NothingIsRetrogradeOnTheLastDay(t *testing.T) {
	// These planets are seen to go back on each day, but after the last one there is none.
	back, from := planet("b", 1001, 1000, 5), resting(1, 0)
	for day := int64(impl.MaxDay - 2); day <= impl.MaxDay; day++ {
		for _, milli := range []int64{0, 43200000, impl.MilliDay - 1} {
			m := impl.Moment{Day: day, Milli: milli}
			checkResult(t, fmt.Sprintf("IsRetrograde(%v, %v, %v)", back, from, m), impl.IsRetrograde(back, from, m), day < impl.MaxDay)
		}
	}
}

func TestP8RetrogradeEverywhere(t *testing.T) {
	sines, random, count := allSines(), rand.New(rand.NewSource(55)), 0
	for range 2000 {
		p, from, m := randomPlanet(random), randomPlanet(random), momentAt(random.Int63n(allMillis-impl.MilliDay))
		now, later := plainSeen(sines, p, from, m).angle, plainSeen(sines, p, from, momentAt(millisOf(m)+impl.MilliDay)).angle
		want := now.code == impl.OK && later.code == impl.OK && plainForwards(now.value, later.value) > 180000
		checkResult(t, fmt.Sprintf("IsRetrograde(%v, %v, %v)", p, from, m), impl.IsRetrograde(p, from, m), want)
		if want {
			count++
		}
	}
	if count == 0 || count == 2000 {
		t.Errorf("%d of 2000 planets are retrograde", count)
	}
}

// Promise 8: the nearest day.

func TestP8NearestDayCases(t *testing.T) {
	fixed := resting(1, 180000)
	cases := []struct {
		p, q, from impl.Planet
		m          impl.Moment
		days       int64
		want       codedTwo
	}{
		{mars, planet("venus", 224701, 723, 0), earth, firstMoment, 60, codedBoth(42, 28944, impl.OK)}, {mars, mars, earth, firstMoment, 1000, codedBoth(0, 0, impl.OK)},
		// Without days, only the moment itself counts.
		{resting(1000, 0), resting(1000, 90000), resting(1000, 180000), firstMoment, 0, codedBoth(0, 45000, impl.OK)}, {resting(1000, 0), resting(1000, 90000), resting(1000, 180000), lastMoment, 0, codedBoth(0, 45000, impl.OK)},
		// All days are alike, or every second and every fourth one.
		{resting(1000, 0), resting(1000, 90000), resting(1000, 180000), firstMoment, 1000, codedBoth(0, 45000, impl.OK)},
		{planet("b", 2000, 1000, 0), resting(1000, 180000), resting(1000, 90000), firstMoment, 1000, codedBoth(1, 0, impl.OK)}, {planet("b", 2000, 1000, 0), resting(1000, 180000), resting(1000, 90000), impl.Moment{Day: 3}, 1000, codedBoth(0, 0, impl.OK)},
		{planet("b", 4000, 1000, 0), resting(1000, 270000), resting(1000, 135000), firstMoment, 1000, codedBoth(3, 0, impl.OK)}, {planet("b", 4000, 1000, 0), resting(1000, 270000), resting(1000, 135000), firstMoment, 2, codedBoth(0, 44998, impl.OK)},
		{resting(1000, 270000), planet("b", 4000, 1000, 0), resting(1000, 135000), firstMoment, 3, codedBoth(3, 0, impl.OK)},
		// Days on which a planet is at the place of from are left out, whichever it is.
		{planet("b", 2000, 1000, 0), resting(1000, 90000), resting(1000, 0), firstMoment, 1000, codedBoth(1, 45000, impl.OK)}, {resting(1000, 90000), planet("b", 2000, 1000, 0), resting(1000, 0), firstMoment, 1, codedBoth(1, 45000, impl.OK)},
		{planet("b", 2000, 1000, 0), resting(1000, 90000), resting(1000, 180000), firstMoment, 1000, codedBoth(0, 45000, impl.OK)}, {planet("b", 2000, 1000, 0), resting(1000, 90000), resting(1000, 180000), impl.Moment{Day: 1}, 1, codedBoth(1, 45000, impl.OK)},
		{planet("b", 2000, 1000, 0), resting(1000, 90000), resting(1000, 0), firstMoment, 0, codedBoth(0, 0, impl.ErrNotFound)}, {resting(1000, 90000), planet("b", 2000, 1000, 0), resting(1000, 0), firstMoment, 0, codedBoth(0, 0, impl.ErrNotFound)},
		// No day is left.
		{earth, mars, earth, firstMoment, 1000, codedBoth(0, 0, impl.ErrNotFound)}, {mars, earth, earth, firstMoment, 1000, codedBoth(0, 0, impl.ErrNotFound)}, {earth, earth, earth, lastMoment, 0, codedBoth(0, 0, impl.ErrNotFound)},
		// Up to MaxDay; the planet b is only after 1000 days where q is.
		{planet("b", 1000000, 1000, 90000), fixed, resting(1, 0), impl.Moment{Day: impl.MaxDay - 1000}, 1000, codedBoth(251, 0, impl.OK)}, {mars, venus, earth, impl.Moment{Day: impl.MaxDay - 999}, 1000, codedBoth(0, 0, impl.ErrRange)},
		{mars, venus, earth, impl.Moment{Day: impl.MaxDay}, 1, codedBoth(0, 0, impl.ErrRange)}, {mars, venus, earth, lastMoment, 1, codedBoth(0, 0, impl.ErrRange)}, {mars, venus, earth, nearEnd, 2, codedBoth(0, 0, impl.ErrRange)},
		{earth, earth, earth, lastMoment, 1, codedBoth(0, 0, impl.ErrRange)}, {earth, earth, earth, firstMoment, 1001, codedBoth(0, 0, impl.ErrRange)}, {earth, earth, earth, firstMoment, -1, codedBoth(0, 0, impl.ErrRange)},
		{planet("b", 4000, 1000, 0), resting(1000, 270000), resting(1000, 135000), impl.Moment{Day: impl.MaxDay}, 0, codedBoth(0, 0, impl.OK)}, {planet("b", 4000, 1000, 0), resting(1000, 270000), resting(1000, 135000), impl.Moment{Day: impl.MaxDay - 1}, 1, codedBoth(1, 0, impl.OK)},
	}
	for _, c := range cases {
		call := fmt.Sprintf("NearestDay(%v, %v, %v, %v, %d)", c.p, c.q, c.from, c.m, c.days)
		checkResult(t, call, codedBoth(impl.NearestDay(c.p, c.q, c.from, c.m, c.days)), c.want)
	}
}

func TestP8NearestDayRefusesDays(t *testing.T) {
	refused := codedBoth(0, 0, impl.ErrRange)
	for _, days := range []int64{-1, 1001, 1002, -1000, 99999, 100000, impl.MaxValue, minInt, minInt + 1, maxInt - 1, maxInt} {
		for _, m := range validMoments() {
			call := fmt.Sprintf("NearestDay(mars, venus, earth, %v, %d)", m, days)
			checkResult(t, call, codedBoth(impl.NearestDay(mars, venus, earth, m, days)), refused)
			checkResult(t, call+" from mars", codedBoth(impl.NearestDay(mars, venus, mars, m, days)), refused)
		}
	}
}

// plainNearest looks at all days.
func plainNearest(sines []int64, p, q, from impl.Planet, m impl.Moment, days int64) codedTwo {
	found := codedBoth(0, 0, impl.ErrNotFound)
	for day := days; day >= 0; day-- {
		at := impl.Moment{Day: m.Day + day, Milli: m.Milli}
		first, second := plainSeen(sines, p, from, at).angle, plainSeen(sines, q, from, at).angle
		if first.code != impl.OK || second.code != impl.OK {
			continue
		}
		if apart := plainBetween(first.value, second.value); found.code != impl.OK || apart <= found.second {
			found = codedBoth(day, apart, impl.OK)
		}
	}
	return found
}

func TestP8NearestDayEverywhere(t *testing.T) {
	sines, random := allSines(), rand.New(rand.NewSource(56))
	for i := range 150 {
		p, q, from, m, days := randomPlanet(random), randomPlanet(random), randomPlanet(random), impl.Moment{Day: random.Int63n(99900)}, random.Int63n(40)
		switch {
		case i%5 == 0:
			from.Radius, from.Start = p.Radius, p.Start
			m.Day = 0
		case i%3 == 0:
			p.Period, q.Period, from.Period = 1000*(1+random.Int63n(5)), 1000*(1+random.Int63n(5)), 1000*(1+random.Int63n(5))
		default:
			m.Milli = random.Int63n(impl.MilliDay)
		}
		call := fmt.Sprintf("NearestDay(%v, %v, %v, %v, %d)", p, q, from, m, days)
		checkResult(t, call, codedBoth(impl.NearestDay(p, q, from, m, days)), plainNearest(sines, p, q, from, m, days))
	}
	call := "NearestDay of mars and venus from earth, in 1000 days"
	m := impl.Moment{Day: impl.MaxDay - 1000, Milli: 12345678}
	checkResult(t, call, codedBoth(impl.NearestDay(mars, venus, earth, m, 1000)), plainNearest(sines, mars, venus, earth, m, 1000))
}

// Promise 8: texts.

var planetTexts = textForm[impl.Planet]{"Planet", impl.PlanetText, impl.ReadPlanet}

func TestP8PlanetIsReadBack(t *testing.T) {
	cases := []struct {
		p    impl.Planet
		text string
	}{
		{earth, "earth 365256,1000,0"}, {mars, "mars 686980,1524,90000"}, {planet("a", 1000, 1, 0), "a 1000,1,0"},
		{planet("abcdefghij", 100000000, 50000, 359999), "abcdefghij 100000000,50000,359999"}, {planet("z9", 1001, 2, 1), "z9 1001,2,1"},
	}
	for _, c := range cases {
		planetTexts.checkReadBack(t, c.p, c.text)
	}
	random := rand.New(rand.NewSource(57))
	for range 500 {
		p := randomPlanet(random)
		planetTexts.checkReadBack(t, p, fmt.Sprintf("%s %d,%d,%d", p.Name, p.Period, p.Radius, p.Start))
	}
}

func TestP8PlanetTextRefuses(t *testing.T) { planetTexts.checkNoTexts(t, invalidPlanets()) }

// noNumbers are words that no list of numbers has.
func noNumbers() []string {
	return []string{"+1000", "-0", "01000", "00", "1000.0", "1e3", "0x3e8", "1_000", "", "b", "-", "--1000", "9223372036854775808", "1000000000001"}
}

func TestP8ReadPlanetRefuses(t *testing.T) {
	texts := []string{
		"a 999,1,0", "a 100000001,1,0", "a 1000,0,0", "a 1000,50001,0", "a 1000,1,-1", "a 1000,1,360000", "a -1000,1,0", "a 1000,-1,0",
		"a", "a ", "a -", "a 1000", "a 1000,1", "a 1000,1,", "a 1000,1,0,", "a 1000,1,0,0", "a ,1000,1,0", "a 1000,,0", "a 1000,1,0 ", " a 1000,1,0", "a  1000,1,0", "a 1000, 1,0", "a 1000 1 0",
		"a,1000,1,0", "a b 1000,1,0", "a 1000,1,0 b", "1000,1,0", "1000,1,0 a", "a\t1000,1,0", "a 1000,1,0\n", "a\n1000,1,0", "a\u00a01000,1,0", "a 1000;1;0", "a1000,1,0",
	}
	for _, word := range noNumbers() {
		texts = append(texts, "a "+word+",1,0", "a 1000,"+word+",0", "a 1000,1,"+word)
	}
	for _, name := range invalidNames() {
		texts = append(texts, name+" 1000,1,0")
	}
	texts = append(texts, "a "+strings.Repeat("1", 10000)+",1,0", "a 1000"+strings.Repeat(",1", 10000), strings.Repeat("a", 10000)+" 1000,1,0", "a"+strings.Repeat(" 1000,1,0", 1000))
	planetTexts.checkNotRead(t, append(texts, edgeTexts()...))
}

func TestP8ReadPlanetRefusesChangedBytes(t *testing.T) {
	planetTexts.checkChanged(t, "mars 686980,1524,90000")
	planetTexts.checkNoParts(t, "mars 686980,1524,9")
}
