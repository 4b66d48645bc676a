package tests

import (
	"cmp"
	"fmt"
	"math/rand"
	"reflect"
	"slices"
	"strings"
	"testing"

	"loop.example/g00955/impl"
)

// codedTwo is a result of two numbers with its code.
type codedTwo struct{ first, second, code int64 }

func codedBoth(first, second, code int64) codedTwo { return codedTwo{first, second, code} }

func site(latitude int64) impl.Site { return impl.Site{Name: "a", Latitude: latitude} }

// edgeLatitudes are the poles, the equator, their neighbours, and some places between them.
func edgeLatitudes() []int64 {
	return []int64{-90000, -89999, -89000, -50000, -33333, -1, 0, 1, 500, 30000, 45000, 50930, 66500, 89000, 89999, 90000}
}

// edgeTurns are angles from 0 to 359999.
func edgeTurns() []int64 {
	return []int64{0, 1, 500, 12345, 45000, 89999, 90000, 90001, 179999, 180000, 180001, 270000, 299792, 359999}
}

// noTurns are numbers that are not from 0 to 359999.
func noTurns() []int64 { return []int64{-1, 360000, 360001, -360000, minInt, maxInt} }

// noElevations are numbers that are not from -90000 to 90000.
func noElevations() []int64 { return []int64{-90001, 90001, 180000, 270000, 360000, minInt, maxInt} }

func invalidNames() []string {
	return []string{"", " ", "-", "7a", "0", "A", "aB", "a b", " a", "a ", "a-b", "a.b", "a_b", "é", "a\x00", "a\n", "abcdefghijk", "\xff"}
}

// invalidSites are sites with one field that no site has.
func invalidSites() []impl.Site {
	list := []impl.Site{{}}
	for _, name := range invalidNames() {
		list = append(list, impl.Site{Name: name}, impl.Site{Name: name, Longitude: 180001, Latitude: 90001})
	}
	for _, n := range []int64{-180001, 180001, -360000, 360000, minInt, maxInt} {
		list = append(list, impl.Site{Name: "a", Longitude: n})
	}
	for _, n := range noElevations() {
		list = append(list, impl.Site{Name: "a", Latitude: n})
	}
	return list
}

func randomSite(random *rand.Rand) impl.Site {
	return impl.Site{Name: "a", Longitude: random.Int63n(360001) - 180000, Latitude: randomDeclination(random)}
}

// horizonCall is a call of a function of chapter 6 with a sidereal angle or a right ascension, and its result.
type horizonCall struct {
	call   string
	result any
}

// horizonCalls are those of all functions that take angles; right and declination are also used as azimuth and altitude.
func horizonCalls(s impl.Site, sidereal, right, declination int64) []horizonCall {
	arguments := fmt.Sprintf("(%v, %d, %d, %d)", s, sidereal, right, declination)
	return []horizonCall{
		{"HorizontalVector" + arguments, codedPlace(impl.HorizontalVector(s, sidereal, right, declination))},
		{"Horizontal" + arguments, codedBoth(impl.Horizontal(s, sidereal, right, declination))},
		{"EquatorialOf" + arguments, codedBoth(impl.EquatorialOf(s, sidereal, right, declination))},
	}
}

// starCalls are those of all functions that take a star over a site, but no sidereal angle.
func starCalls(s impl.Site, right, declination int64) []horizonCall {
	arguments := fmt.Sprintf("(%v, %d, %d)", s, right, declination)
	return append(declinationCalls(s, declination),
		horizonCall{"RisingOf" + arguments, coded(impl.RisingOf(s, right, declination))},
		horizonCall{"SettingOf" + arguments, coded(impl.SettingOf(s, right, declination))})
}

func declinationCalls(s impl.Site, declination int64) []horizonCall {
	arguments := fmt.Sprintf("(%v, %d)", s, declination)
	return []horizonCall{
		{"CulminationAltitude" + arguments, coded(impl.CulminationAltitude(s, declination))},
		{"LowestAltitude" + arguments, coded(impl.LowestAltitude(s, declination))},
		{"SettingHour" + arguments, coded(impl.SettingHour(s, declination))},
	}
}

// checkRefused checks that all results have a code and nothing else.
func checkRefused(t *testing.T, calls []horizonCall, code int64) {
	t.Helper()
	for _, c := range calls {
		result := reflect.ValueOf(c.result)
		isRefused := result.FieldByName("code").Int() == code
		for i := range result.NumField() {
			isRefused = isRefused && (result.Type().Field(i).Name == "code" || result.Field(i).IsZero())
		}
		if !isRefused {
			t.Errorf("%s: got %v, want the code %d and nothing else", c.call, c.result, code)
		}
	}
}

// Promise 1, for the functions of chapter 6.

func TestP1HorizonReturnsEqualResults(t *testing.T) {
	sites := invalidSites()
	for _, latitude := range edgeLatitudes() {
		sites = append(sites, site(latitude))
	}
	for i, s := range sites {
		for k, n := range slices.Concat(edgeNumbers(), edgeTurns(), noElevations()) {
			o := edgeNumbers()[(5*i+3*k)%len(edgeNumbers())]
			checkRepeats(t, fmt.Sprintf("functions of the site %v and the numbers %d, %d", s, n, o), func() []any {
				results := []any{impl.ValidSite(s), impl.SiteText(s), impl.SiteText(impl.Site{Name: "a", Longitude: n, Latitude: o})}
				for _, list := range [][]impl.Star{nil, fewStars(), {{}}} {
					results = append(results, codedMany(impl.VisibleStars(s, n, list, 0)), codedMany(impl.VisibleStars(s, 0, list, n)))
				}
				for _, c := range slices.Concat(
					horizonCalls(s, n, o, 0), horizonCalls(s, 0, n, o), horizonCalls(s, o, 0, n), starCalls(s, n, o), starCalls(s, n, 0), starCalls(s, 0, n)) {
					results = append(results, c.result)
				}
				return results
			})
		}
	}
	for _, s := range edgeTexts() {
		checkRepeats(t, fmt.Sprintf("functions of the text %.40q", s), func() []any {
			read, ok := impl.ReadSite(s)
			named := impl.Site{Name: s}
			return []any{read, ok, impl.ValidSite(named), impl.SiteText(named), codedMany(impl.VisibleStars(named, 0, nil, 0))}
		})
	}
}

func TestP1VisibleStarsKeepsItsArgument(t *testing.T) {
	for _, list := range append(validLists(), invalidLists()...) {
		for _, rest := range [][]impl.Star{{starAt("x", 7, 7), {}}, slices.Repeat([]impl.Star{starAt("z", 7, 7)}, 30)} {
			checkListKept(t, fmt.Sprintf("VisibleStars of %v", list), list, rest, func(l []impl.Star) {
				for _, latitude := range edgeLatitudes() {
					impl.VisibleStars(site(latitude), 12345, l, -90000)
					impl.VisibleStars(site(latitude), 0, l, 0)
					impl.VisibleStars(site(latitude), -1, l, 0)
				}
			})
		}
	}
}

func TestP1VisibleStarsReturnsNewSlices(t *testing.T) {
	list := fewStars()
	first, _ := impl.VisibleStars(site(50000), 0, list, -90000)
	second, _ := impl.VisibleStars(site(50000), 0, list, -90000)
	before := slices.Clone(second)
	for i := range first[:cap(first)] {
		first[:cap(first)][i] = 77
	}
	checkResult(t, "the other result of VisibleStars", second, before)
	third, code := impl.VisibleStars(site(50000), 0, list, -90000)
	checkResult(t, "VisibleStars again", codedMany(third, code), codedMany(before, impl.OK))
}

// Promise 7: valid sites.

func TestP7ValidSite(t *testing.T) {
	sites := []impl.Site{
		{Name: "a"}, {Name: "abcdefghij"}, {Name: "z9"}, {Name: "a", Longitude: -180000, Latitude: -90000}, {Name: "a", Longitude: 180000, Latitude: 90000},
		{Name: "jena", Longitude: 11586, Latitude: 50930}, {Name: "quito", Longitude: -78467, Latitude: -180},
	}
	for _, n := range []int64{-180000, -179999, -1, 1, 179999, 180000} {
		sites = append(sites, impl.Site{Name: "a", Longitude: n})
	}
	for _, n := range edgeLatitudes() {
		sites = append(sites, site(n))
	}
	for _, s := range sites {
		checkResult(t, fmt.Sprintf("ValidSite(%v)", s), impl.ValidSite(s), true)
	}
	for _, s := range invalidSites() {
		checkResult(t, fmt.Sprintf("ValidSite(%q)", fmt.Sprint(s)), impl.ValidSite(s), false)
	}
}

func TestP7InvalidSitesAreRefusedFirst(t *testing.T) {
	for _, s := range invalidSites() {
		for _, n := range [][3]int64{{0, 0, 0}, {0, 0, 90000}, {-1, 0, 0}, {0, 360000, 0}, {0, 0, 90001}, {minInt, maxInt, minInt}} {
			checkRefused(t, horizonCalls(s, n[0], n[1], n[2]), impl.ErrInvalid)
			checkRefused(t, starCalls(s, n[1], n[2]), impl.ErrInvalid)
			for _, list := range [][]impl.Star{nil, fewStars(), make([]impl.Star, impl.MaxStars+1), slices.Repeat(fewStars(), 7)} {
				call := fmt.Sprintf("VisibleStars(%v, %d, %v, %d)", s, n[0], list, n[2])
				checkResult(t, call, codedMany(impl.VisibleStars(s, n[0], list, n[2])), codedMany[int64](nil, impl.ErrInvalid))
			}
		}
	}
}

func TestP7AnglesAreRefused(t *testing.T) {
	// At these sites, some of the stars never rise or never set, which would be another error.
	for _, latitude := range []int64{-90000, 0, 50000, 90000} {
		s := site(latitude)
		for _, turn := range noTurns() {
			for _, elevation := range []int64{-90000, 0, 90000, 90001} {
				checkRefused(t, horizonCalls(s, turn, 0, elevation), impl.ErrRange)
				checkRefused(t, horizonCalls(s, 359999, turn, elevation), impl.ErrRange)
				checkRefused(t, starCalls(s, turn, elevation)[3:], impl.ErrRange)
			}
		}
		for _, elevation := range noElevations() {
			checkRefused(t, horizonCalls(s, 0, 359999, elevation), impl.ErrRange)
			checkRefused(t, starCalls(s, 359999, elevation), impl.ErrRange)
			checkRefused(t, declinationCalls(s, elevation), impl.ErrRange)
		}
	}
}

// Promise 7: directions over the horizon.

// zenith and the others are the ends of the axes of HorizontalVector.
var (
	north, east, zenith = alongX, alongY, alongZ
	south, west, nadir  = opposite(alongX), opposite(alongY), opposite(alongZ)
)

// horizonCase is a star over a site, with its direction.
type horizonCase struct {
	latitude, sidereal, right, declination int64
	vector                                 impl.Vector
	azimuth, altitude                      int64
}

// horizonCases are stars at the poles and at the equator, in the zenith and below the horizon.
func horizonCases() []horizonCase {
	return []horizonCase{
		{0, 0, 0, 0, zenith, 0, 90000}, {0, 180000, 0, 0, nadir, 0, -90000}, {0, 0, 90000, 0, east, 90000, 0}, {0, 0, 270000, 0, west, 270000, 0},
		{0, 90000, 0, 0, west, 270000, 0}, {0, 270000, 0, 0, east, 90000, 0}, {0, 12345, 12345, 0, zenith, 0, 90000}, {0, 359999, 89999, 0, east, 90000, 0},
		{0, 0, 0, 90000, north, 0, 0}, {0, 77777, 123, 90000, north, 0, 0}, {0, 0, 0, -90000, south, 180000, 0}, {0, 77777, 123, -90000, south, 180000, 0},
		{0, 0, 30000, 0, vec(0, 500000, 866025), 90000, 60000}, {0, 30000, 0, 0, vec(0, -500000, 866025), 270000, 60000},
		{0, 0, 150000, 0, vec(0, 500000, -866025), 90000, -60000}, {0, 0, 0, 30000, vec(500000, 0, 866025), 0, 60000}, {0, 0, 0, -30000, vec(-500000, 0, 866025), 180000, 60000},
		{90000, 0, 0, 90000, zenith, 0, 90000}, {90000, 271828, 314159, 90000, zenith, 0, 90000}, {90000, 0, 0, -90000, nadir, 0, -90000},
		{90000, 0, 0, 0, south, 180000, 0}, {90000, 0, 90000, 0, east, 90000, 0}, {90000, 0, 180000, 0, north, 0, 0}, {90000, 0, 270000, 0, west, 270000, 0},
		{90000, 5, 5, 30000, vec(-866025, 0, 500000), 180000, 30000}, {90000, 5, 5, -30000, vec(-866025, 0, -500000), 180000, -30000},
		{-90000, 0, 0, -90000, zenith, 0, 90000}, {-90000, 0, 0, 90000, nadir, 0, -90000}, {-90000, 0, 0, 0, north, 0, 0}, {-90000, 0, 90000, 0, east, 90000, 0},
		{-90000, 0, 180000, 0, south, 180000, 0}, {-90000, 90000, 0, 0, west, 270000, 0}, {-90000, 5, 5, -30000, vec(866025, 0, 500000), 0, 30000},
		{50000, 0, 0, 50000, zenith, 0, 90000}, {50000, 100000, 280000, -50000, nadir, 0, -90000}, {50000, 0, 0, 90000, vec(642788, 0, 766044), 0, 50000},
		{-50000, 0, 0, -90000, vec(-642788, 0, 766044), 180000, 50000}, {-50000, 0, 0, 90000, vec(642788, 0, -766044), 0, -50000},
		{60000, 0, 0, 0, vec(-866025, 0, 500000), 180000, 30000}, {60000, 0, 180000, 0, vec(866025, 0, -500000), 0, -30000},
		{60000, 90000, 0, 30000, vec(250000, -866025, 433013), 286103, 25659}, {60000, 0, 90000, 30000, vec(250000, 866025, 433013), 73897, 25659},
	}
}

func TestP7HorizontalCases(t *testing.T) {
	for _, c := range horizonCases() {
		s, arguments := site(c.latitude), fmt.Sprintf("(latitude %d, %d, %d, %d)", c.latitude, c.sidereal, c.right, c.declination)
		checkResult(t, "HorizontalVector"+arguments, codedPlace(impl.HorizontalVector(s, c.sidereal, c.right, c.declination)), codedPlace(c.vector, impl.OK))
		checkResult(t, "Horizontal"+arguments, codedBoth(impl.Horizontal(s, c.sidereal, c.right, c.declination)), codedBoth(c.azimuth, c.altitude, impl.OK))
	}
}

// plainHorizontal follows the text of the document.
func plainHorizontal(sines []int64, latitude, sidereal, right, declination int64) impl.Vector {
	v := plainRotate(sines, plainDirection(sines, right-sidereal, declination), 2, latitude).vector
	return vec(v.Z, v.Y, v.X)
}

// plainEquatorial follows the text of the document.
func plainEquatorial(sines []int64, latitude, sidereal, azimuth, altitude int64) codedTwo {
	v := plainDirection(sines, azimuth, altitude)
	angles := plainAngles(sines, plainRotate(sines, vec(v.Z, v.Y, v.X), 2, -latitude).vector)
	return codedBoth(plainForwards(0, sidereal+angles.longitude), angles.latitude, angles.code)
}

func checkHorizon(t *testing.T, sines []int64, s impl.Site, sidereal, right, declination int64) {
	t.Helper()
	arguments := fmt.Sprintf("(%v, %d, %d, %d)", s, sidereal, right, declination)
	v := plainHorizontal(sines, s.Latitude, sidereal, right, declination)
	checkResult(t, "HorizontalVector"+arguments, codedPlace(impl.HorizontalVector(s, sidereal, right, declination)), codedPlace(v, impl.OK))
	angles := plainAngles(sines, v)
	checkResult(t, "Horizontal"+arguments, codedBoth(impl.Horizontal(s, sidereal, right, declination)), codedBoth(angles.longitude, angles.latitude, angles.code))
	back := plainEquatorial(sines, s.Latitude, sidereal, right, declination)
	checkResult(t, "EquatorialOf"+arguments, codedBoth(impl.EquatorialOf(s, sidereal, right, declination)), back)
}

func TestP7HorizonEverywhere(t *testing.T) {
	sines, random := allSines(), rand.New(rand.NewSource(40))
	for _, latitude := range edgeLatitudes() {
		for i, sidereal := range edgeTurns() {
			for _, declination := range []int64{-90000, -89999, -1, 0, 1, 40000, 89999, 90000} {
				checkHorizon(t, sines, site(latitude), sidereal, edgeTurns()[(3*i+5)%len(edgeTurns())], declination)
				checkHorizon(t, sines, site(latitude), sidereal, random.Int63n(360000), declination)
			}
		}
	}
	for range 500 {
		checkHorizon(t, sines, randomSite(random), randomRight(random), randomRight(random), randomDeclination(random))
	}
}

func TestP7LongitudesDoNotMatter(t *testing.T) {
	for _, longitude := range []int64{-180000, -1, 1, 123456, 180000} {
		for _, latitude := range edgeLatitudes() {
			s, o := impl.Site{Name: "there", Longitude: longitude, Latitude: latitude}, site(latitude)
			call := fmt.Sprintf("Horizontal(%v, 1000, 20000, 3000)", s)
			checkResult(t, call, codedBoth(impl.Horizontal(s, 1000, 20000, 3000)), codedBoth(impl.Horizontal(o, 1000, 20000, 3000)))
			checkResult(t, fmt.Sprintf("SettingHour(%v, 3000)", s), coded(impl.SettingHour(s, 3000)), coded(impl.SettingHour(o, 3000)))
		}
	}
}

func TestP7EquatorialCases(t *testing.T) {
	cases := []struct{ latitude, sidereal, azimuth, altitude, right, declination int64 }{
		{0, 0, 0, 90000, 0, 0}, {0, 12345, 359999, 90000, 12345, 0}, {0, 0, 0, -90000, 180000, 0}, {0, 0, 90000, 0, 90000, 0}, {0, 0, 270000, 0, 270000, 0},
		{0, 0, 0, 0, 0, 90000}, {0, 0, 180000, 0, 0, -90000}, {0, 0, 90000, 60000, 30000, 0}, {0, 350000, 90000, 60000, 20000, 0}, {0, 10000, 270000, 60000, 340000, 0},
		{0, 359999, 0, 0, 359999, 90000}, {0, 270000, 90000, 0, 0, 0}, {0, 269999, 90000, 0, 359999, 0}, {0, 270001, 90000, 0, 1, 0},
		{90000, 0, 0, 90000, 0, 90000}, {90000, 5, 123456, 90000, 5, 90000}, {90000, 0, 0, -90000, 0, -90000}, {90000, 0, 180000, 0, 0, 0}, {90000, 0, 90000, 0, 90000, 0},
		{90000, 0, 0, 0, 180000, 0}, {90000, 100000, 0, 0, 280000, 0}, {90000, 200000, 0, 0, 20000, 0}, {90000, 0, 180000, -30000, 0, -30000},
		{-90000, 0, 0, 90000, 0, -90000}, {-90000, 0, 0, 0, 0, 0}, {-90000, 0, 180000, 0, 180000, 0}, {-90000, 0, 0, 30000, 0, -30000},
		{50000, 0, 0, 90000, 0, 50000}, {50000, 0, 0, -90000, 180000, -50000}, {50000, 0, 0, 50000, 0, 90000}, {50000, 7, 180000, 40000, 7, 0}, {-50000, 7, 0, 40000, 7, 0},
	}
	for _, c := range cases {
		call := fmt.Sprintf("EquatorialOf(latitude %d, %d, %d, %d)", c.latitude, c.sidereal, c.azimuth, c.altitude)
		checkResult(t, call, codedBoth(impl.EquatorialOf(site(c.latitude), c.sidereal, c.azimuth, c.altitude)), codedBoth(c.right, c.declination, impl.OK))
	}
}

// checkLedBack checks that EquatorialOf leads back from Horizontal, and Horizontal from EquatorialOf.
// Sines between whole degrees are less than they should be, which moves a direction by a few thousandths of a degree.
func checkLedBack(t *testing.T, s impl.Site, sidereal int64, d [2]int64) {
	t.Helper()
	const mostOff = 6
	wanted, _ := impl.DirectionOf(d[0], d[1])
	azimuth, altitude, code := impl.Horizontal(s, sidereal, d[0], d[1])
	right, declination, backCode := impl.EquatorialOf(s, sidereal, azimuth, altitude)
	back, _ := impl.DirectionOf(right, declination)
	if off, _ := impl.Separation(wanted, back); off > mostOff || sizeOf(declination-d[1]) > mostOff || code != impl.OK || backCode != impl.OK {
		t.Errorf("Horizontal(%v, %d, %v): %d, %d, and back to %d, %d", s, sidereal, d, azimuth, altitude, right, declination)
	}
	right, declination, backCode = impl.EquatorialOf(s, sidereal, d[0], d[1])
	azimuth, altitude, code = impl.Horizontal(s, sidereal, right, declination)
	back, _ = impl.DirectionOf(azimuth, altitude)
	if off, _ := impl.Separation(wanted, back); off > mostOff || sizeOf(altitude-d[1]) > mostOff || code != impl.OK || backCode != impl.OK {
		t.Errorf("EquatorialOf(%v, %d, %v): %d, %d, and back to %d, %d", s, sidereal, d, right, declination, azimuth, altitude)
	}
}

func TestP7EquatorialLeadsBack(t *testing.T) {
	random := rand.New(rand.NewSource(41))
	for _, latitude := range edgeLatitudes() {
		for _, turn := range edgeTurns() {
			for _, elevation := range []int64{-90000, -89999, -45000, 0, 1, 30000, 89999, 90000} {
				checkLedBack(t, site(latitude), random.Int63n(360000), [2]int64{turn, elevation})
			}
		}
	}
	for range 20000 {
		checkLedBack(t, randomSite(random), randomRight(random), [2]int64{randomRight(random), randomDeclination(random)})
	}
}

// Promise 7: the greatest and the least altitudes.

func TestP7CulminationCases(t *testing.T) {
	cases := []struct{ latitude, declination, greatest, least int64 }{
		{51000, 51000, 90000, 12000}, {-51000, -51000, 90000, 12000}, {0, 0, 90000, -90000}, {90000, 90000, 90000, 90000}, {-90000, -90000, 90000, 90000},
		{90000, -90000, -90000, -90000}, {-90000, 90000, -90000, -90000}, {90000, 20000, 20000, 20000}, {90000, -20000, -20000, -20000}, {-90000, 20000, -20000, -20000},
		{90000, 0, 0, 0}, {-90000, 0, 0, 0}, {0, 90000, 0, 0}, {0, -90000, 0, 0}, {0, 30000, 60000, -60000}, {0, -30000, 60000, -60000},
		{50000, 60000, 80000, 20000}, {50000, 40000, 80000, 0}, {50000, 39999, 79999, -1}, {50000, -40000, 0, -80000}, {50000, -39999, 1, -79999}, {50000, -40001, -1, -80001},
		{-50000, 60000, -20000, -80000}, {-50000, 50000, -10000, -90000}, {50000, -50000, -10000, -90000}, {50000, 0, 40000, -40000}, {-50000, 0, 40000, -40000},
		{50930, 50931, 89999, 11861}, {50930, 50929, 89999, 11859}, {1, -1, 89998, -90000}, {-1, 1, 89998, -90000},
	}
	for _, c := range cases {
		arguments := fmt.Sprintf("(latitude %d, %d)", c.latitude, c.declination)
		checkResult(t, "CulminationAltitude"+arguments, coded(impl.CulminationAltitude(site(c.latitude), c.declination)), coded(c.greatest, impl.OK))
		checkResult(t, "LowestAltitude"+arguments, coded(impl.LowestAltitude(site(c.latitude), c.declination)), coded(c.least, impl.OK))
	}
}

func TestP7StarsCulminateInTheZenith(t *testing.T) {
	for latitude := int64(-90000); latitude <= 90000; latitude += 3 {
		s := site(latitude)
		_, altitude, _ := impl.Horizontal(s, 0, 0, latitude)
		if greatest, code := impl.CulminationAltitude(s, latitude); altitude != 90000 || greatest != 90000 || code != impl.OK {
			t.Fatalf("latitude %d: the altitude %d and the greatest one %d, %d", latitude, altitude, greatest, code)
		}
	}
}

func TestP7AltitudesLieBetweenTheEnds(t *testing.T) {
	random := rand.New(rand.NewSource(42))
	for range 1000 {
		s, right, declination := randomSite(random), randomRight(random), randomDeclination(random)
		greatest, _ := impl.CulminationAltitude(s, declination)
		lowest, _ := impl.LowestAltitude(s, declination)
		_, upper, _ := impl.Horizontal(s, right, right, declination)
		_, lower, _ := impl.Horizontal(s, (right+180000)%360000, right, declination)
		// Altitudes of vectors are off by up to 2, because sines between whole degrees are less than they should be.
		if sizeOf(upper-greatest) > 2 || sizeOf(lower-lowest) > 2 {
			t.Errorf("site %v, declination %d: altitudes %d, %d, ends %d, %d", s, declination, upper, lower, greatest, lowest)
		}
		_, altitude, _ := impl.Horizontal(s, randomRight(random), right, declination)
		if altitude > greatest+4 || altitude < lowest-4 {
			t.Errorf("site %v, declination %d: altitude %d, ends %d, %d", s, declination, altitude, greatest, lowest)
		}
	}
}

// Promise 7: rising and setting.

func TestP7SettingCases(t *testing.T) {
	never := coded(0, impl.ErrState)
	cases := []struct {
		latitude, declination int64
		want                  codedNumber
	}{
		{0, 0, coded(90000, impl.OK)}, {0, 45000, coded(90000, impl.OK)}, {0, -45000, coded(90000, impl.OK)}, {50000, 0, coded(90000, impl.OK)}, {-50000, 0, coded(90000, impl.OK)},
		{45000, 30000, coded(125266, impl.OK)}, {60000, 20000, coded(129082, impl.OK)}, {60000, -20000, coded(50919, impl.OK)}, {-60000, 20000, coded(50919, impl.OK)}, {-60000, -20000, coded(129082, impl.OK)},
		// At the equator, each star sets, but for those at the poles; close to them, it is on the horizon early.
		{0, 89999, coded(88315, impl.OK)}, {0, -89999, coded(88315, impl.OK)}, {0, 90000, never}, {0, -90000, never},
		// At the poles, no star rises or sets.
		{90000, 90000, never}, {90000, 20000, never}, {90000, 1, never}, {90000, 0, never}, {90000, -1, never}, {90000, -90000, never},
		{-90000, 90000, never}, {-90000, 1, never}, {-90000, 0, never}, {-90000, -1, never}, {-90000, -20000, never}, {-90000, -90000, never},
		{89999, 0, coded(88315, impl.OK)}, {89999, 1, coded(166072, impl.OK)}, {89999, 2, never}, {89999, -1, never}, {-89999, -1, coded(166072, impl.OK)}, {-89999, 1, never},
		// Stars that just rise, and the first ones that never do.
		{50000, -39999, coded(221, impl.OK)}, {50000, -40000, never}, {50000, -40001, never}, {50000, -90000, never}, {-50000, 39999, coded(221, impl.OK)}, {-50000, 40000, never},
		{30000, -59999, coded(254, impl.OK)}, {30000, -60000, never}, {1, -89998, coded(60001, impl.OK)}, {1, -89999, never}, {1, -90000, never},
		// Stars that just set, and the first ones that never do.
		{50000, 40000, coded(179997, impl.OK)}, {50000, 40001, never}, {50000, 90000, never}, {-50000, -40000, coded(179997, impl.OK)}, {-50000, -40001, never},
		{30000, 60000, coded(179991, impl.OK)}, {30000, 60001, never}, {1, 89999, coded(166072, impl.OK)}, {1, 90000, never},
	}
	for _, c := range cases {
		s := site(c.latitude)
		checkResult(t, fmt.Sprintf("SettingHour(latitude %d, %d)", c.latitude, c.declination), coded(impl.SettingHour(s, c.declination)), c.want)
		for _, right := range []int64{0, 1, 10000, 200000, 359999} {
			rising, setting := coded(plainForwards(c.want.value, right), impl.OK), coded(plainForwards(-c.want.value, right), impl.OK)
			if c.want.code != impl.OK {
				rising, setting = never, never
			}
			arguments := fmt.Sprintf("(latitude %d, %d, %d)", c.latitude, right, c.declination)
			checkResult(t, "RisingOf"+arguments, coded(impl.RisingOf(s, right, c.declination)), rising)
			checkResult(t, "SettingOf"+arguments, coded(impl.SettingOf(s, right, c.declination)), setting)
		}
	}
}

func TestP7RisingAndSettingPassZero(t *testing.T) {
	cases := []struct{ right, rising, setting int64 }{
		{10000, 280000, 100000}, {90000, 0, 180000}, {89999, 359999, 179999}, {270000, 180000, 0}, {269999, 179999, 359999}, {270001, 180001, 1},
		{0, 270000, 90000}, {359999, 269999, 89999}, {180000, 90000, 270000},
	}
	for _, c := range cases {
		for _, place := range [][2]int64{{0, 0}, {0, 50000}, {50000, 0}, {-30000, 0}} {
			s, arguments := site(place[0]), fmt.Sprintf("(latitude %d, %d, %d)", place[0], c.right, place[1])
			checkResult(t, "RisingOf"+arguments, coded(impl.RisingOf(s, c.right, place[1])), coded(c.rising, impl.OK))
			checkResult(t, "SettingOf"+arguments, coded(impl.SettingOf(s, c.right, place[1])), coded(c.setting, impl.OK))
		}
	}
}

// plainSetting returns what SettingHour should, by looking at one angle after the other.
func plainSetting(s impl.Site, declination int64) codedNumber {
	isUp := func(hour int64) bool {
		v, _ := impl.HorizontalVector(s, hour, 0, declination)
		return v.Z > 0
	}
	if !isUp(0) || isUp(180000) {
		return coded(0, impl.ErrState)
	}
	hour := int64(0)
	for isUp(hour) {
		hour++
	}
	return coded(hour, impl.OK)
}

func TestP7SettingHourIsTheLeast(t *testing.T) {
	random := rand.New(rand.NewSource(43))
	for range 10 {
		s, declination := site(random.Int63n(100000)-50000), random.Int63n(80000)-40000
		checkResult(t, fmt.Sprintf("SettingHour(%v, %d)", s, declination), coded(impl.SettingHour(s, declination)), plainSetting(s, declination))
	}
	for _, place := range [][2]int64{{50000, -39999}, {50000, 40000}, {50000, 40001}, {50000, -40000}, {0, 89999}, {89999, 1}, {45000, 44999}} {
		s := site(place[0])
		checkResult(t, fmt.Sprintf("SettingHour(%v, %d)", s, place[1]), coded(impl.SettingHour(s, place[1])), plainSetting(s, place[1]))
	}
}

// isExpectedUp tells from RisingOf, SettingOf and CulminationAltitude whether a star is above the horizon.
func isExpectedUp(s impl.Site, sidereal, right, declination int64) bool {
	rising, risingCode := impl.RisingOf(s, right, declination)
	setting, settingCode := impl.SettingOf(s, right, declination)
	if risingCode != impl.OK || settingCode != impl.OK {
		// A star that never rises or sets is always where it is at its culmination.
		v, _ := impl.HorizontalVector(s, right, right, declination)
		return v.Z > 0
	}
	since := plainForwards(rising, sidereal)
	return since > 0 && since < plainForwards(rising, setting)
}

func checkUp(t *testing.T, s impl.Site, sidereal, right, declination int64, want bool) {
	t.Helper()
	v, code := impl.HorizontalVector(s, sidereal, right, declination)
	_, altitude, altitudeCode := impl.Horizontal(s, sidereal, right, declination)
	if code != impl.OK || altitudeCode != impl.OK || (v.Z > 0) != want || (altitude > 0) != want {
		t.Errorf("site %v, sidereal %d, star %d, %d: %v, altitude %d; above the horizon should be %t", s, sidereal, right, declination, v, altitude, want)
	}
}

func TestP7StarsAreUpBetweenRisingAndSetting(t *testing.T) {
	random := rand.New(rand.NewSource(44))
	for range 1500 {
		s, right, declination := randomSite(random), randomRight(random), randomDeclination(random)
		if random.Intn(3) == 0 {
			// The declination of a star that just rises or sets, or just does not.
			declination = min(max(90000-sizeOf(s.Latitude)+random.Int63n(5)-2, 0), 90000) * (2*random.Int63n(2) - 1)
		}
		angles := []int64{right, plainForwards(-180000, right), randomRight(random), randomRight(random), randomRight(random)}
		rising, code := impl.RisingOf(s, right, declination)
		if setting, _ := impl.SettingOf(s, right, declination); code == impl.OK {
			for near := int64(-2); near <= 2; near++ {
				angles = append(angles, plainForwards(near, rising), plainForwards(near, setting))
			}
		}
		for _, sidereal := range angles {
			checkUp(t, s, sidereal, right, declination, isExpectedUp(s, sidereal, right, declination))
		}
	}
}

func TestP7StarsAtEachAngle(t *testing.T) {
	for _, place := range [][3]int64{{50930, 300000, 20000}, {-33333, 10, -5000}, {50000, 0, 40000}, {0, 0, 89999}} {
		s, right, declination := site(place[0]), place[1], place[2]
		rising, _ := impl.RisingOf(s, right, declination)
		setting, _ := impl.SettingOf(s, right, declination)
		for since := range int64(impl.Circle) {
			checkUp(t, s, (rising+since)%impl.Circle, right, declination, since > 0 && since < (setting-rising+impl.Circle)%impl.Circle)
		}
	}
}

func TestP7StarsThatNeverRiseOrSetAtEachAngle(t *testing.T) {
	cases := []struct {
		latitude, declination int64
		want                  bool
	}{
		{50000, 40001, true}, {50000, -40000, false}, {-50000, -40001, true}, {-50000, 40000, false}, {0, 90000, false}, {0, -90000, false},
		{90000, 1, true}, {90000, 0, false}, {90000, -1, false}, {-90000, 1, false}, {-90000, 0, false}, {-90000, -1, true}, {90000, 90000, true}, {-90000, 90000, false},
	}
	for _, c := range cases {
		for sidereal := int64(0); sidereal < impl.Circle; sidereal += 11 {
			checkUp(t, site(c.latitude), sidereal, 12345, c.declination, c.want)
		}
	}
}

// Promise 7: visible stars.

func TestP7VisibleStarsCases(t *testing.T) {
	// Seen from the equator: in the zenith, at the altitudes 30000 and 60000 on all sides, at both poles, at the horizon, below it, and in the nadir.
	sky := []impl.Star{
		starAt("n", 180000, 0), starAt("e", 60000, 0), starAt("w", 300000, 0), starAt("z", 0, 0), starAt("high", 0, 30000), starAt("low", 0, -60000),
		starAt("pole", 5, 90000), starAt("pole", 7, -90000), starAt("rises", 90000, 0), starAt("gone", 120000, 0), starAt("high", 0, -30000),
	}
	cases := []struct {
		latitude, sidereal, least int64
		want                      []int64
	}{
		{0, 0, -90000, []int64{3, 4, 10, 1, 2, 5, 6, 7, 8, 9, 0}}, {0, 0, -89999, []int64{3, 4, 10, 1, 2, 5, 6, 7, 8, 9}}, {0, 0, -30000, []int64{3, 4, 10, 1, 2, 5, 6, 7, 8, 9}},
		{0, 0, -29999, []int64{3, 4, 10, 1, 2, 5, 6, 7, 8}}, {0, 0, 0, []int64{3, 4, 10, 1, 2, 5, 6, 7, 8}}, {0, 0, 1, []int64{3, 4, 10, 1, 2, 5}},
		{0, 0, 30000, []int64{3, 4, 10, 1, 2, 5}}, {0, 0, 30001, []int64{3, 4, 10}}, {0, 0, 60000, []int64{3, 4, 10}}, {0, 0, 60001, []int64{3}}, {0, 0, 89999, []int64{3}}, {0, 0, 90000, []int64{3}},
		{0, 90000, 90000, []int64{8}}, {0, 45000, 90000, nil}, {0, 180000, 90000, []int64{0}},
		{90000, 0, 90000, []int64{6}}, {90000, 123456, 0, []int64{6, 4, 0, 1, 2, 3, 8, 9}}, {-90000, 123456, 1, []int64{7, 5, 10}},
	}
	for _, c := range cases {
		call := fmt.Sprintf("VisibleStars(latitude %d, %d, sky, %d)", c.latitude, c.sidereal, c.least)
		checkResult(t, call, codedMany(impl.VisibleStars(site(c.latitude), c.sidereal, sky, c.least)), codedMany(c.want, impl.OK))
	}
	for _, least := range []int64{-90000, 0, 90000} {
		checkResult(t, "VisibleStars of no stars", codedMany(impl.VisibleStars(site(0), 0, nil, least)), codedMany[int64](nil, impl.OK))
		checkResult(t, "VisibleStars of no stars", codedMany(impl.VisibleStars(site(0), 0, []impl.Star{}, least)), codedMany[int64](nil, impl.OK))
	}
}

func TestP7VisibleStarsLimits(t *testing.T) {
	full := slices.Repeat([]impl.Star{starAt("a", 0, 0)}, impl.MaxStars)
	more := slices.Repeat([]impl.Star{starAt("a", 0, 0)}, impl.MaxStars+1)
	none := func(code int64) codedList[int64] { return codedMany[int64](nil, code) }
	checkResult(t, "VisibleStars of MaxStars", codedMany(impl.VisibleStars(site(0), 0, full, 0)), codedMany(allIndices(impl.MaxStars), impl.OK))
	checkResult(t, "VisibleStars of one more", codedMany(impl.VisibleStars(site(0), 0, more, 0)), none(impl.ErrFull))
	checkResult(t, "VisibleStars of many more", codedMany(impl.VisibleStars(site(0), 180000, slices.Repeat(more, 40), 90000)), none(impl.ErrFull))
	for _, list := range [][]impl.Star{nil, full[:1], full, more} {
		for _, turn := range noTurns() {
			checkResult(t, fmt.Sprintf("VisibleStars at %d", turn), codedMany(impl.VisibleStars(site(0), turn, list, 0)), none(impl.ErrRange))
		}
		for _, least := range noElevations() {
			checkResult(t, fmt.Sprintf("VisibleStars from %d on", least), codedMany(impl.VisibleStars(site(0), 0, list, least)), none(impl.ErrRange))
		}
		for _, x := range invalidStars() {
			for _, angles := range [][2]int64{{0, 0}, {-1, 0}, {0, 90001}, {360000, -90001}} {
				first, last := slices.Concat([]impl.Star{x}, list), slices.Concat(list, []impl.Star{x})
				call := fmt.Sprintf("VisibleStars with %q at %v", fmt.Sprint(x), angles)
				checkResult(t, call, codedMany(impl.VisibleStars(site(0), angles[0], first, angles[1])), none(impl.ErrInvalid))
				checkResult(t, call, codedMany(impl.VisibleStars(site(0), angles[0], last, angles[1])), none(impl.ErrInvalid))
			}
		}
	}
}

func TestP7VisibleStarsEverywhere(t *testing.T) {
	random := rand.New(rand.NewSource(45))
	for range 1000 {
		s, sidereal, list := randomSite(random), randomRight(random), randomStars(random, random.Intn(impl.MaxStars+1))
		random.Shuffle(len(list), func(i, k int) { list[i], list[k] = list[k], list[i] })
		altitudes := []int64{}
		for _, x := range list {
			_, altitude, _ := impl.Horizontal(s, sidereal, x.Right, x.Declination)
			altitudes = append(altitudes, altitude)
		}
		for _, least := range append(slices.Clone(altitudes), 0, -90000, 90000, random.Int63n(180001)-90000) {
			want := slices.DeleteFunc(allIndices(len(list)), func(i int64) bool { return altitudes[i] < least })
			slices.SortFunc(want, func(i, k int64) int { return cmp.Or(cmp.Compare(altitudes[k], altitudes[i]), cmp.Compare(i, k)) })
			call := fmt.Sprintf("VisibleStars(%v, %d, %v, %d)", s, sidereal, list, least)
			checkResult(t, call, codedMany(impl.VisibleStars(s, sidereal, list, least)), codedMany(want, impl.OK))
		}
	}
}

// Promise 7: texts.

var siteTexts = textForm[impl.Site]{"Site", impl.SiteText, impl.ReadSite}

func TestP7SiteIsReadBack(t *testing.T) {
	cases := []struct {
		s    impl.Site
		text string
	}{
		{impl.Site{Name: "jena", Longitude: 11586, Latitude: 50930}, "jena 11.586 50.930"}, {impl.Site{Name: "quito", Longitude: -78467, Latitude: -180}, "quito -78.467 -0.180"},
		{site(0), "a 0.000 0.000"}, {impl.Site{Name: "a", Longitude: -1, Latitude: -1}, "a -0.001 -0.001"}, {impl.Site{Name: "a", Longitude: 1, Latitude: 1}, "a 0.001 0.001"},
		{impl.Site{Name: "abcdefghij", Longitude: -180000, Latitude: -90000}, "abcdefghij -180.000 -90.000"}, {impl.Site{Name: "z9", Longitude: 180000, Latitude: 90000}, "z9 180.000 90.000"},
		{impl.Site{Name: "a", Longitude: -179999, Latitude: 89999}, "a -179.999 89.999"}, {impl.Site{Name: "a", Longitude: 179999, Latitude: -89999}, "a 179.999 -89.999"},
	}
	for _, c := range cases {
		siteTexts.checkReadBack(t, c.s, c.text)
	}
	random := rand.New(rand.NewSource(46))
	for range 1000 {
		s := randomSite(random)
		siteTexts.checkReadBack(t, s, "a "+impl.AngleText(s.Longitude)+" "+impl.AngleText(s.Latitude))
	}
}

func TestP7SiteTextRefuses(t *testing.T) { siteTexts.checkNoTexts(t, invalidSites()) }

func TestP7ReadSiteRefuses(t *testing.T) {
	texts := []string{
		"a 180.001 0.000", "a -180.001 0.000", "a 0.000 90.001", "a 0.000 -90.001", "a 360.000 0.000", "a 0.000 180.000", "a 181.000 0.000", "a 0.000 91.000",
		"a", "a ", "a 0.000", "a 0.000 ", "a 0.000 0.000 ", " a 0.000 0.000", "a  0.000 0.000", "a 0.000  0.000", "a 0.000 0.000 0.000", "a b 0.000 0.000",
		"a 0 0", "a 0.000 0", "a 0.000,0.000", "a,0.000,0.000", "a\t0.000 0.000", "a 0.000\t0.000", "a 0.000 0.000\n", "a 0.000\u00a00.000", "0.000 0.000", "0.000 0.000 a",
	}
	for _, word := range []string{"-0.000", "+0.000", "00.000", "01.000", "0.00", "0.0000", "0,000", ".000", "0.", "0", "1e3", "", "b", "-", "--1.000", "1.-00", "999999999999999999999.000"} {
		texts = append(texts, "a "+word+" 0.000", "a 0.000 "+word)
	}
	for _, name := range invalidNames() {
		texts = append(texts, name+" 0.000 0.000")
	}
	texts = append(texts, "a "+strings.Repeat("0", 10000)+".000 0.000", "a"+strings.Repeat(" 0.000", 10000), strings.Repeat("a", 10000)+" 0.000 0.000")
	siteTexts.checkNotRead(t, append(texts, edgeTexts()...))
}

func TestP7ReadSiteRefusesChangedBytes(t *testing.T) {
	whole := "jena -111.586 50.930"
	siteTexts.checkChanged(t, whole)
	siteTexts.checkNoParts(t, whole)
}
