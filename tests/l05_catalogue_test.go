package tests

import (
	"cmp"
	"fmt"
	"math/rand"
	"slices"
	"strings"
	"testing"

	"loop.example/g00955/impl"
)

// codedList is a list with its code.
type codedList[T any] struct {
	list []T
	code int64
}

// codedMany returns a list with its code; a list that is not nil but empty counts as nil.
func codedMany[T any](list []T, code int64) codedList[T] {
	if len(list) == 0 {
		list = nil
	}
	return codedList[T]{list, code}
}

// codedNearest is a result of NearestStar.
type codedNearest struct{ index, distance, code int64 }

func nearestOf(list []impl.Star, right, declination int64) codedNearest {
	index, distance, code := impl.NearestStar(list, right, declination)
	return codedNearest{index, distance, code}
}

func star(id string, right, declination, magnitude, colour int64) impl.Star {
	return impl.Star{Id: id, Right: right, Declination: declination, Magnitude: magnitude, Colour: colour}
}

func starAt(id string, right, declination int64) impl.Star { return star(id, right, declination, 0, 0) }

// starsOf returns stars with magnitudes, whose names are in the order of these.
func starsOf(magnitudes ...int64) []impl.Star {
	list := []impl.Star{}
	for i, m := range magnitudes {
		list = append(list, star(numberedName(i), 0, 0, m, 0))
	}
	return list
}

// numberedName returns names that are in the order of their numbers, from 0 to 99.
func numberedName(i int) string { return fmt.Sprintf("s%02d", i) }

// randomStars returns a valid list in which stars often have the same place or the same magnitude.
func randomStars(random *rand.Rand, count int) []impl.Star {
	list := []impl.Star{}
	for i := range count {
		magnitude, colour := random.Int63n(1001)-200, random.Int63n(301)-50
		list = append(list, star(numberedName(i), randomRight(random), randomDeclination(random), magnitude, colour))
		if random.Intn(4) == 0 {
			other := list[random.Intn(len(list))]
			list[i].Right, list[i].Declination, list[i].Magnitude = other.Right, other.Declination, other.Magnitude
		}
	}
	return list
}

func randomRight(random *rand.Rand) int64 {
	if random.Intn(3) == 0 {
		return (random.Int63n(21) + 359990) % 360000
	}
	return random.Int63n(360000)
}

func randomDeclination(random *rand.Rand) int64 {
	switch random.Intn(4) {
	case 0:
		return 90000 - random.Int63n(20)
	case 1:
		return random.Int63n(20) - 90000
	}
	return random.Int63n(180001) - 90000
}

// fewStars is a valid list, in which the brightest star is the last one.
func fewStars() []impl.Star {
	return []impl.Star{
		star("altair", 297000, 8870, 77, 22), star("deneb", 310000, 45280, 125, 9), star("sirius", 101287, -16716, -146, 0), star("vega", 279000, 38780, -147, -1),
	}
}

// validLists are valid lists of all sizes.
func validLists() [][]impl.Star {
	lists := [][]impl.Star{nil, {}, fewStars()[:1], fewStars()}
	for _, count := range []int{2, 3, impl.MaxStars - 1, impl.MaxStars} {
		lists = append(lists, randomStars(rand.New(rand.NewSource(int64(count))), count))
	}
	return lists
}

// invalidStars are stars with one field that no star has.
func invalidStars() []impl.Star {
	list := []impl.Star{{}}
	for _, id := range []string{"", "-", "7a", "0", "A", "aB", "a b", " a", "a ", "a-b", "a.b", "a_b", "é", "a\x00", "a\n", "abcdefghijk", "\xff"} {
		list = append(list, starAt(id, 0, 0))
	}
	for _, n := range []int64{-1, 360000, 360001, -360000, minInt, maxInt} {
		list = append(list, starAt("a", n, 0))
	}
	for _, n := range []int64{-90001, 90001, -180000, 180000, minInt, maxInt} {
		list = append(list, starAt("a", 0, n))
	}
	for _, n := range []int64{-201, 801, -1000, 1000, minInt, maxInt} {
		list = append(list, star("a", 0, 0, n, 0))
	}
	for _, n := range []int64{-51, 251, -100, 1000, minInt, maxInt} {
		list = append(list, star("a", 0, 0, 0, n))
	}
	return list
}

// invalidLists are lists with a star that is not valid, or not at its place, or with too many stars.
func invalidLists() [][]impl.Star {
	lists := [][]impl.Star{
		starsOf(make([]int64, impl.MaxStars+1)...), make([]impl.Star, impl.MaxStars), make([]impl.Star, 1000),
		{starAt("a", 0, 0), starAt("a", 0, 0)}, {starAt("a", 0, 0), starAt("a", 1, 1)}, {starAt("b", 0, 0), starAt("a", 0, 0)},
		{starAt("a", 0, 0), starAt("c", 0, 0), starAt("b", 0, 0)}, {starAt("a", 0, 0), starAt("b", 0, 0), starAt("b", 0, 0)},
		{starAt("s10", 0, 0), starAt("s9", 0, 0), starAt("s11", 0, 0)}, {starAt("ab", 0, 0), starAt("a", 0, 0)},
	}
	for _, x := range invalidStars() {
		lists = append(lists, []impl.Star{x}, []impl.Star{x, starAt("b", 0, 0)}, []impl.Star{starAt("0", 0, 0), x})
	}
	return lists
}

// Promise 1, for the functions of chapter 5.

func allOfStar(x impl.Star) []any { return []any{impl.ValidStar(x), impl.StarText(x)} }

// allOfStars calls every function that takes a list, and returns all results.
func allOfStars(list []impl.Star, n int64) []any {
	return []any{
		impl.ValidStars(list), impl.SameStars(list, list), impl.SameStars(list, fewStars()), coded(impl.TotalMagnitude(list)), codedMany(impl.BrightestFirst(list)),
		codedMany(impl.AddStar(list, starAt("m", 0, n))), codedMany(impl.AddStar(list, starAt("s00", n, 0))), codedMany(impl.DropStar(list, "s01")),
		codedMany(impl.DropStar(list, "vega")), codedMany(impl.StarsWithin(list, n, 0, 90000)), codedMany(impl.StarsWithin(list, 0, n, 90000)),
		codedMany(impl.StarsWithin(list, 0, 0, n)), nearestOf(list, n, 0), nearestOf(list, 0, n),
	}
}

func TestP1CatalogueReturnsEqualResults(t *testing.T) {
	for _, n := range append(edgeNumbers(), 801, 359999, 360000, -90001, 90000, 180000, 180001) {
		checkRepeats(t, fmt.Sprintf("functions of the number %d", n), func() []any {
			results := []any{coded(impl.FluxOf(n)), coded(impl.MagnitudeOf(n)), impl.ColourName(n)}
			for _, x := range []impl.Star{star("a", n, 0, 0, 0), star("a", 0, n, 0, 0), star("a", 0, 0, n, 0), star("a", 0, 0, 0, n), star("", n, n, n, n)} {
				results = append(results, allOfStar(x)...)
			}
			return results
		})
		for _, list := range append(validLists(), invalidLists()...) {
			checkRepeats(t, fmt.Sprintf("functions of the list %v and the number %d", list, n), func() []any { return allOfStars(list, n) })
		}
	}
	for _, s := range edgeTexts() {
		checkRepeats(t, fmt.Sprintf("functions of the text %.40q", s), func() []any {
			x, ok := impl.ReadStar(s)
			return append(allOfStar(starAt(s, 0, 0)), x, ok, codedMany(impl.AddStar(nil, starAt(s, 0, 0))), codedMany(impl.DropStar(fewStars(), s)))
		})
	}
}

func TestP1CatalogueKeepsItsArguments(t *testing.T) {
	for _, list := range append(validLists(), invalidLists()...) {
		for _, rest := range [][]impl.Star{{starAt("x", 7, 7), {}, starAt("y", 7, 7)}, slices.Repeat([]impl.Star{starAt("z", 7, 7)}, 30)} {
			checkListKept(t, fmt.Sprintf("functions of the list %v", list), list, rest, func(l []impl.Star) {
				allOfStars(l, 0)
				for _, id := range []string{"a", "altair", "m", "s00", "s11", "zz"} {
					impl.AddStar(l, starAt(id, 1, 1))
					impl.DropStar(l, id)
				}
				for _, x := range l {
					impl.AddStar(l, x)
					impl.DropStar(l, x.Id)
				}
			})
		}
	}
}

// overwrite writes over all stars of a list and over its unused capacity.
func overwrite(list []impl.Star) {
	for i := range list[:cap(list)] {
		list[:cap(list)][i] = starAt("over", 8, 8)
	}
}

// checkOwnMemory checks that neither writing over an argument changes a result, nor the other way round.
func checkOwnMemory(t *testing.T, call string, list []impl.Star, use func([]impl.Star) ([]impl.Star, int64)) {
	t.Helper()
	argument := slices.Concat(list, []impl.Star{starAt("x", 7, 7), starAt("y", 7, 7)})[:len(list)]
	result, code := use(argument)
	before := slices.Clone(result)
	overwrite(argument)
	if code != impl.OK || !slices.Equal(result, before) {
		t.Errorf("%s: code %d; its result shares memory with its argument", call, code)
	}
	copy(argument, list)
	overwrite(result)
	if !slices.Equal(argument, list) {
		t.Errorf("%s: its argument shares memory with its result", call)
	}
}

func TestP1StarListsHaveMemoryOfTheirOwn(t *testing.T) {
	for _, list := range validLists() {
		for _, id := range []string{"a", "m", "s00a", "zz"} {
			if len(list) < impl.MaxStars {
				checkOwnMemory(t, "AddStar of "+id, list, func(l []impl.Star) ([]impl.Star, int64) { return impl.AddStar(l, starAt(id, 1, 1)) })
			}
		}
		for _, x := range list {
			checkOwnMemory(t, "DropStar of "+x.Id, list, func(l []impl.Star) ([]impl.Star, int64) { return impl.DropStar(l, x.Id) })
		}
	}
	// Two lists that come from the same one do not share what is behind it either.
	first, _ := impl.AddStar(fewStars(), starAt("x", 1, 1))
	second, _ := impl.AddStar(first, starAt("y", 2, 2))
	third, _ := impl.AddStar(first, starAt("z", 3, 3))
	checkResult(t, "the last stars of two lists", []impl.Star{second[5], third[5]}, []impl.Star{starAt("y", 2, 2), starAt("z", 3, 3)})
}

// Promise 6: valid stars.

func TestP6CatalogueConstants(t *testing.T) {
	constants := []int64{impl.MaxStars, impl.MinMagnitude, impl.MaxMagnitude, impl.MinColour, impl.MaxColour}
	checkResult(t, "constants", constants, []int64{24, -200, 800, -50, 250})
}

func TestP6ValidStar(t *testing.T) {
	stars := slices.Concat(fewStars(), []impl.Star{star("a", 0, -90000, -200, -50), star("z", 359999, 90000, 800, 250)})
	for _, id := range []string{"a", "z", "z9", "a0", "abcdefghij", "a123456789"} {
		stars = append(stars, starAt(id, 0, 0))
	}
	for _, n := range []int64{0, 1, 359998, 359999} {
		stars = append(stars, starAt("a", n, 0))
	}
	for _, n := range []int64{-90000, -89999, -1, 1, 89999, 90000} {
		stars = append(stars, starAt("a", 0, n))
	}
	for _, n := range []int64{-200, -199, -1, 1, 799, 800} {
		stars = append(stars, star("a", 0, 0, n, 0))
	}
	for _, n := range []int64{-50, -49, -1, 1, 249, 250} {
		stars = append(stars, star("a", 0, 0, 0, n))
	}
	for _, x := range stars {
		checkResult(t, fmt.Sprintf("ValidStar(%v)", x), impl.ValidStar(x), true)
	}
	for _, x := range invalidStars() {
		checkResult(t, fmt.Sprintf("ValidStar(%q)", fmt.Sprint(x)), impl.ValidStar(x), false)
	}
}

func TestP6ValidStars(t *testing.T) {
	lists := append(validLists(),
		starsOf(make([]int64, impl.MaxStars)...), []impl.Star{starAt("a", 0, 0), starAt("a0", 0, 0), starAt("aa", 0, 0), starAt("b", 0, 0)},
		[]impl.Star{starAt("s10", 5, 5), starAt("s11", 5, 5), starAt("s9", 5, 5)})
	for _, list := range lists {
		checkResult(t, fmt.Sprintf("ValidStars(%v)", list), impl.ValidStars(list), true)
	}
	for _, list := range invalidLists() {
		checkResult(t, fmt.Sprintf("ValidStars(%v)", list), impl.ValidStars(list), false)
	}
}

// otherStars are stars that differ from x in one field each.
func otherStars(x impl.Star) []impl.Star {
	list := slices.Repeat([]impl.Star{x}, 5)
	list[0].Id += "x"
	list[1].Right++
	list[2].Declination++
	list[3].Magnitude++
	list[4].Colour++
	return list
}

func TestP6SameStars(t *testing.T) {
	lists := slices.Concat(validLists(), invalidLists(), [][]impl.Star{invalidStars(), {starAt("b", 0, 0), starAt("a", 0, 0)}})
	sameForm[impl.Star]{"SameStars", impl.SameStars, otherStars}.checkLists(t, lists)
}

func TestP6InvalidStarsAreRefusedFirst(t *testing.T) {
	stars, indices := codedMany[impl.Star](nil, impl.ErrInvalid), codedMany[int64](nil, impl.ErrInvalid)
	for _, list := range invalidLists() {
		for _, x := range append([]impl.Star{starAt("q", 0, 0), {}}, list[:1]...) {
			checkResult(t, fmt.Sprintf("AddStar(%v, %v)", list, x), codedMany(impl.AddStar(list, x)), stars)
			checkResult(t, fmt.Sprintf("DropStar(%v, %q)", list, x.Id), codedMany(impl.DropStar(list, x.Id)), stars)
		}
		checkResult(t, fmt.Sprintf("TotalMagnitude(%v)", list), coded(impl.TotalMagnitude(list)), coded(0, impl.ErrInvalid))
		checkResult(t, fmt.Sprintf("BrightestFirst(%v)", list), codedMany(impl.BrightestFirst(list)), indices)
		for _, n := range [][3]int64{{0, 0, 90000}, {-1, 0, 0}, {360000, 0, 0}, {0, 90001, 0}, {0, 0, -1}, {0, 0, 180001}, {minInt, maxInt, minInt}} {
			call := fmt.Sprintf("(%v, %v)", list, n)
			checkResult(t, "StarsWithin"+call, codedMany(impl.StarsWithin(list, n[0], n[1], n[2])), indices)
			checkResult(t, "NearestStar"+call, nearestOf(list, n[0], n[1]), codedNearest{0, 0, impl.ErrInvalid})
		}
	}
}

// Promise 6: adding and dropping stars.

func TestP6AddStarCases(t *testing.T) {
	few := fewStars()
	cases := []struct {
		list []impl.Star
		x    impl.Star
		at   int
	}{
		{nil, few[0], 0}, {[]impl.Star{}, few[3], 0}, {few, starAt("a", 1, 2), 0}, {few, starAt("b", 1, 2), 1}, {few, starAt("denea", 1, 2), 1},
		{few, starAt("denebola", 1, 2), 2}, {few, starAt("spica", 1, 2), 3}, {few, starAt("vega2", 1, 2), 4}, {few, starAt("z", 1, 2), 4},
		{few[:1], few[1], 1}, {few[1:2], few[0], 0}, {few, star("m", 359999, -90000, -200, -50), 2},
	}
	for _, c := range cases {
		want := codedMany(slices.Concat(c.list[:c.at], []impl.Star{c.x}, c.list[c.at:]), impl.OK)
		checkResult(t, fmt.Sprintf("AddStar(%v, %v)", c.list, c.x), codedMany(impl.AddStar(c.list, c.x)), want)
	}
}

func TestP6AddStarRefuses(t *testing.T) {
	full := starsOf(make([]int64, impl.MaxStars)...)
	refused := func(code int64) codedList[impl.Star] { return codedMany[impl.Star](nil, code) }
	for _, list := range [][]impl.Star{fewStars(), full, full[:23]} {
		for i, x := range list {
			checkResult(t, fmt.Sprintf("AddStar(%v, its star %d)", list, i), codedMany(impl.AddStar(list, x)), refused(impl.ErrExists))
			other := star(x.Id, 5, -5, 5, 5)
			checkResult(t, fmt.Sprintf("AddStar(%v, %v)", list, other), codedMany(impl.AddStar(list, other)), refused(impl.ErrExists))
		}
	}
	for _, id := range []string{"a", "s00a", "s23a", "zz"} {
		checkResult(t, "AddStar to a full list", codedMany(impl.AddStar(full, starAt(id, 0, 0))), refused(impl.ErrFull))
	}
	for _, list := range append(validLists(), full) {
		for _, x := range invalidStars() {
			checkResult(t, fmt.Sprintf("AddStar(%v, %q)", list, fmt.Sprint(x)), codedMany(impl.AddStar(list, x)), refused(impl.ErrInvalid))
		}
	}
	badOfFull := full[3]
	badOfFull.Colour = 251
	checkResult(t, "AddStar of a star that is not valid and exists", codedMany(impl.AddStar(full, badOfFull)), refused(impl.ErrInvalid))
}

func TestP6AddStarsUpToTheLimit(t *testing.T) {
	random := rand.New(rand.NewSource(31))
	for range 50 {
		wanted, list := randomStars(random, impl.MaxStars), []impl.Star{}
		for _, i := range random.Perm(len(wanted)) {
			next, code := impl.AddStar(list, wanted[i])
			if code != impl.OK || !impl.ValidStars(next) || len(next) != len(list)+1 {
				t.Fatalf("AddStar(%v, %v): got %v, %d", list, wanted[i], next, code)
			}
			list = next
		}
		checkResult(t, "all stars added", list, wanted)
	}
}

func TestP6DropStar(t *testing.T) {
	for _, list := range validLists() {
		for i, x := range list {
			want := codedMany(slices.Concat(list[:i], list[i+1:]), impl.OK)
			checkResult(t, fmt.Sprintf("DropStar(%v, %q)", list, x.Id), codedMany(impl.DropStar(list, x.Id)), want)
			rest, _ := impl.DropStar(list, x.Id)
			checkResult(t, fmt.Sprintf("AddStar(%v, %v)", rest, x), codedMany(impl.AddStar(rest, x)), codedMany(list, impl.OK))
			checkResult(t, fmt.Sprintf("DropStar(%v, %q)", rest, x.Id), codedMany(impl.DropStar(rest, x.Id)), codedMany[impl.Star](nil, impl.ErrNotFound))
		}
		for _, id := range append(edgeTexts(), "aldebaran", "altai", "altair2", "Altair", "zz", "s001", "s24") {
			checkResult(t, fmt.Sprintf("DropStar(%v, %.40q)", list, id), codedMany(impl.DropStar(list, id)), codedMany[impl.Star](nil, impl.ErrNotFound))
		}
	}
}

// Promise 6: brightness.

func TestP6FluxCases(t *testing.T) {
	cases := [][2]int64{
		{800, 1000}, {799, 1010}, {798, 1019}, {796, 1038}, {795, 1048}, {791, 1086}, {790, 1096}, {789, 1107}, {701, 2490}, {700, 2512}, {699, 2537},
		{101, 625656}, {100, 631160}, {99, 637450}, {2, 1557746}, {1, 1571648}, {0, 1585474}, {-1, 1601274}, {-2, 1615844}, {-5, 1661763},
		{-9, 1721888}, {-10, 1737694}, {-11, 1755288}, {-33, 2149772}, {-50, 2513382}, {-99, 3947980}, {-100, 3982711}, {-101, 4022400},
		{-123, 4926122}, {-149, 6256028}, {-150, 6313616}, {-199, 9917326}, {-200, 10004570},
	}
	for _, c := range cases {
		checkResult(t, fmt.Sprintf("FluxOf(%d)", c[0]), coded(impl.FluxOf(c[0])), coded(c[1], impl.OK))
	}
	for _, m := range []int64{-201, 801, -300, 900, 1000, -800, impl.MaxValue, -impl.MaxValue, minInt, minInt + 800, maxInt - 800, maxInt} {
		checkResult(t, fmt.Sprintf("FluxOf(%d)", m), coded(impl.FluxOf(m)), coded(0, impl.ErrRange))
	}
}

// plainFlux follows the text of the document for a magnitude from -200 to 800.
func plainFlux(magnitude int64) int64 {
	t := []int64{1000, 1096, 1202, 1318, 1445, 1585, 1738, 1905, 2089, 2291, 2512}
	n := 800 - magnitude
	k := n % 100 / 10
	flux := t[k] + plainQuotient((t[k+1]-t[k])*(n%10), 10)
	for whole := n / 100; whole > 0; whole-- {
		flux = plainQuotient(2512*flux, 1000)
	}
	return flux
}

// plainMagnitude looks at one magnitude after the other, from the faintest one on.
func plainMagnitude(flux int64) codedNumber {
	for m := int64(800); m >= -200; m-- {
		if plainFlux(m) >= flux {
			return coded(m, impl.OK)
		}
	}
	return coded(0, impl.ErrState)
}

func TestP6MagnitudesAreFoundAgain(t *testing.T) {
	for m := int64(-200); m <= 800; m++ {
		flux, code := impl.FluxOf(m)
		checkResult(t, fmt.Sprintf("FluxOf(%d)", m), coded(flux, code), coded(plainFlux(m), impl.OK))
		checkResult(t, fmt.Sprintf("MagnitudeOf(%d)", flux), coded(impl.MagnitudeOf(flux)), coded(m, impl.OK))
		// A flux that is greater by 1 needs the next brighter magnitude, and there is none for the brightest one.
		brighter, fainter := coded(m-1, impl.OK), coded(m, impl.OK)
		if m == -200 {
			brighter = coded(0, impl.ErrState)
		}
		checkResult(t, fmt.Sprintf("MagnitudeOf(%d)", flux+1), coded(impl.MagnitudeOf(flux+1)), brighter)
		checkResult(t, fmt.Sprintf("MagnitudeOf(%d)", flux-1), coded(impl.MagnitudeOf(flux-1)), fainter)
	}
}

func TestP6MagnitudeCases(t *testing.T) {
	cases := []struct {
		flux int64
		want codedNumber
	}{
		{1, coded(800, impl.OK)}, {2, coded(800, impl.OK)}, {999, coded(800, impl.OK)}, {1000, coded(800, impl.OK)}, {1001, coded(799, impl.OK)},
		{1010, coded(799, impl.OK)}, {1011, coded(798, impl.OK)}, {2000, coded(724, impl.OK)}, {2512, coded(700, impl.OK)}, {2513, coded(699, impl.OK)},
		{1585473, coded(0, impl.OK)}, {1585474, coded(0, impl.OK)}, {1585475, coded(-1, impl.OK)}, {1601274, coded(-1, impl.OK)}, {1601275, coded(-2, impl.OK)},
		{9917326, coded(-199, impl.OK)}, {9917327, coded(-200, impl.OK)}, {10004570, coded(-200, impl.OK)},
		{10004571, coded(0, impl.ErrState)}, {100000000, coded(0, impl.ErrState)}, {999999999999, coded(0, impl.ErrState)}, {1000000000000, coded(0, impl.ErrState)},
		{0, coded(0, impl.ErrRange)}, {-1, coded(0, impl.ErrRange)}, {-1000, coded(0, impl.ErrRange)}, {1000000000001, coded(0, impl.ErrRange)},
		{minInt, coded(0, impl.ErrRange)}, {maxInt, coded(0, impl.ErrRange)},
	}
	for _, c := range cases {
		checkResult(t, fmt.Sprintf("MagnitudeOf(%d)", c.flux), coded(impl.MagnitudeOf(c.flux)), c.want)
	}
}

func TestP6TotalMagnitudeCases(t *testing.T) {
	full := func(magnitude int64) []int64 { return slices.Repeat([]int64{magnitude}, impl.MaxStars) }
	tooBright := coded(0, impl.ErrState)
	cases := []struct {
		magnitudes []int64
		want       codedNumber
	}{
		{nil, coded(0, impl.ErrNotFound)}, {[]int64{800}, coded(800, impl.OK)}, {[]int64{-200}, coded(-200, impl.OK)}, {[]int64{0}, coded(0, impl.OK)},
		{[]int64{-1}, coded(-1, impl.OK)}, {[]int64{799}, coded(799, impl.OK)}, {[]int64{-199}, coded(-199, impl.OK)},
		{[]int64{800, 800}, coded(724, impl.OK)}, {[]int64{100, 100}, coded(24, impl.OK)}, {[]int64{0, 0}, coded(-76, impl.OK)}, {[]int64{-100, -100}, coded(-176, impl.OK)},
		{[]int64{150, 150, 150, 150, 150}, coded(-25, impl.OK)}, {full(800), coded(455, impl.OK)}, {full(150), coded(-195, impl.OK)},
		{full(0), tooBright}, {full(-200), tooBright}, {full(-1), tooBright}, {[]int64{-200, -200}, tooBright}, {[]int64{-100, -100, -100}, tooBright},
		{[]int64{-200, 800}, tooBright}, {[]int64{800, -200}, tooBright},
		// All three together are just as bright as the brightest magnitude, and then by 1 brighter.
		{[]int64{-199, 340, 486}, coded(-200, impl.OK)}, {[]int64{-199, 332, 524}, tooBright}, {[]int64{524, 332, -199}, tooBright},
	}
	for _, c := range cases {
		list := starsOf(c.magnitudes...)
		checkResult(t, fmt.Sprintf("TotalMagnitude(%v)", list), coded(impl.TotalMagnitude(list)), c.want)
	}
}

func TestP6TotalMagnitudeEverywhere(t *testing.T) {
	random := rand.New(rand.NewSource(32))
	for range 500 {
		list := randomStars(random, 1+random.Intn(impl.MaxStars))
		sum := int64(0)
		for i := range list {
			list[i].Magnitude = random.Int63n(900) - 100 - random.Int63n(100)
			sum += plainFlux(list[i].Magnitude)
		}
		checkResult(t, fmt.Sprintf("TotalMagnitude(%v)", list), coded(impl.TotalMagnitude(list)), plainMagnitude(sum))
	}
}

func TestP6BrightestFirst(t *testing.T) {
	cases := []struct{ magnitudes, want []int64 }{
		{nil, nil}, {[]int64{5}, []int64{0}}, {[]int64{-1, 0, 1}, []int64{0, 1, 2}}, {[]int64{1, 0, -1}, []int64{2, 1, 0}},
		{[]int64{7, 7, 7, 7}, []int64{0, 1, 2, 3}}, {[]int64{-7, -7, -7}, []int64{0, 1, 2}}, {[]int64{0, -200, 800, -200, 0}, []int64{1, 3, 0, 4, 2}},
		{[]int64{-10, -9, -11, -100, 10, 9}, []int64{3, 2, 0, 1, 5, 4}}, {[]int64{800, 800, -200}, []int64{2, 0, 1}},
	}
	for _, c := range cases {
		list := starsOf(c.magnitudes...)
		checkResult(t, fmt.Sprintf("BrightestFirst(%v)", list), codedMany(impl.BrightestFirst(list)), codedMany(c.want, impl.OK))
	}
	random := rand.New(rand.NewSource(33))
	for range 200 {
		list := randomStars(random, random.Intn(impl.MaxStars+1))
		for i := range list {
			list[i].Magnitude = random.Int63n(7) - 3
		}
		want := allIndices(len(list))
		slices.SortFunc(want, func(i, k int64) int {
			return cmp.Or(cmp.Compare(list[i].Magnitude, list[k].Magnitude), cmp.Compare(i, k))
		})
		checkResult(t, fmt.Sprintf("BrightestFirst(%v)", list), codedMany(impl.BrightestFirst(list)), codedMany(want, impl.OK))
	}
}

func allIndices(count int) []int64 {
	list := []int64{}
	for i := range count {
		list = append(list, int64(i))
	}
	return list
}

func TestP6ColourName(t *testing.T) {
	ranges := []struct {
		first, last int64
		name        string
	}{
		{-50, -1, "blue"}, {0, 29, "white"}, {30, 59, "cream"}, {60, 89, "yellow"}, {90, 139, "orange"}, {140, 250, "red"},
	}
	for _, r := range ranges {
		for colour := r.first; colour <= r.last; colour++ {
			checkResult(t, fmt.Sprintf("ColourName(%d)", colour), impl.ColourName(colour), r.name)
		}
	}
	for _, colour := range []int64{-51, 251, -52, 252, -1000, 1000, impl.MaxValue, -impl.MaxValue, minInt, maxInt} {
		checkResult(t, fmt.Sprintf("ColourName(%d)", colour), impl.ColourName(colour), "")
	}
}

// Promise 6: distances.

// aroundStars are stars at the poles, near to them, and on both sides of the direction 0.
func aroundStars() []impl.Star {
	return []impl.Star{
		starAt("a", 0, 90000), starAt("b", 359000, 0), starAt("c", 1000, 0), starAt("d", 180000, 0), starAt("e", 0, -90000),
		starAt("f", 0, 89000), starAt("g", 180000, 89000), starAt("h", 180000, -89000),
	}
}

func TestP6StarsWithinCases(t *testing.T) {
	around := aroundStars()
	cases := []struct {
		right, declination, radius int64
		want                       []int64
	}{
		{0, 0, 0, nil}, {0, 0, 999, nil}, {0, 0, 1000, []int64{1, 2}}, {359999, 0, 1000, []int64{1}}, {1, 0, 1000, []int64{2}}, {359999, 0, 1001, []int64{1, 2}},
		{359000, 0, 0, []int64{1}}, {359000, 0, 1999, []int64{1}}, {359000, 0, 2000, []int64{1, 2}}, {1000, 0, 2000, []int64{1, 2}}, {1000, 0, 1999, []int64{2}},
		{0, 90000, 0, []int64{0}}, {123456, 90000, 0, []int64{0}}, {0, 90000, 1000, []int64{0, 5, 6}}, {271828, 90000, 999, []int64{0}}, {271828, 90000, 1000, []int64{0, 5, 6}},
		{0, 89000, 1999, []int64{0, 5}}, {0, 89000, 2000, []int64{0, 5, 6}}, {180000, 89000, 2000, []int64{0, 5, 6}}, {0, 89000, 999, []int64{5}},
		{0, -90000, 0, []int64{4}}, {90000, -90000, 1000, []int64{4, 7}}, {0, -89000, 1999, []int64{4}}, {0, -89000, 2000, []int64{4, 7}},
		{0, 0, 90000, []int64{0, 1, 2, 4, 5}}, {0, 0, 91000, []int64{0, 1, 2, 4, 5, 6, 7}}, {0, 0, 179999, []int64{0, 1, 2, 4, 5, 6, 7}},
		{0, 0, 180000, []int64{0, 1, 2, 3, 4, 5, 6, 7}}, {359999, -90000, 180000, []int64{0, 1, 2, 3, 4, 5, 6, 7}}, {0, 90000, 179999, []int64{0, 1, 2, 3, 5, 6, 7}},
	}
	for _, c := range cases {
		call := fmt.Sprintf("StarsWithin(around, %d, %d, %d)", c.right, c.declination, c.radius)
		checkResult(t, call, codedMany(impl.StarsWithin(around, c.right, c.declination, c.radius)), codedMany(c.want, impl.OK))
	}
	for _, radius := range []int64{0, 1, 90000, 180000} {
		checkResult(t, "StarsWithin(nil)", codedMany(impl.StarsWithin(nil, 0, 0, radius)), codedMany[int64](nil, impl.OK))
	}
}

// noDirections are pairs of numbers that are not a right ascension and a declination.
func noDirections() [][2]int64 {
	list := [][2]int64{{-1, -90001}, {360000, 90001}, {minInt, minInt}, {maxInt, maxInt}}
	for _, n := range []int64{-1, 360000, 720000, -360000, minInt, maxInt} {
		list = append(list, [2]int64{n, 0}, [2]int64{n, 90000})
	}
	for _, n := range []int64{-90001, 90001, 180000, 270000, 360000, minInt, maxInt} {
		list = append(list, [2]int64{0, n}, [2]int64{359999, n})
	}
	return list
}

func TestP6DirectionsAreRefused(t *testing.T) {
	refused := codedMany[int64](nil, impl.ErrRange)
	for _, list := range validLists() {
		for _, d := range noDirections() {
			for _, radius := range []int64{0, 180000, -1, 180001} {
				call := fmt.Sprintf("StarsWithin(%v, %v, %d)", list, d, radius)
				checkResult(t, call, codedMany(impl.StarsWithin(list, d[0], d[1], radius)), refused)
			}
			checkResult(t, fmt.Sprintf("NearestStar(%v, %v)", list, d), nearestOf(list, d[0], d[1]), codedNearest{0, 0, impl.ErrRange})
		}
		for _, radius := range []int64{-1, 180001, -180000, 360000, minInt, maxInt} {
			call := fmt.Sprintf("StarsWithin(%v, 0, 0, %d)", list, radius)
			checkResult(t, call, codedMany(impl.StarsWithin(list, 0, 0, radius)), refused)
		}
	}
}

func TestP6NearestStarCases(t *testing.T) {
	around := aroundStars()
	cases := []struct {
		right, declination int64
		want               codedNearest
	}{
		// Two stars are at the same distance on both sides of the direction 0.
		{0, 0, codedNearest{1, 1000, impl.OK}}, {1, 0, codedNearest{2, 999, impl.OK}}, {359999, 0, codedNearest{1, 999, impl.OK}},
		{359000, 0, codedNearest{1, 0, impl.OK}}, {1000, 0, codedNearest{2, 0, impl.OK}}, {180000, 0, codedNearest{3, 0, impl.OK}}, {90000, 0, codedNearest{2, 89000, impl.OK}},
		{0, 90000, codedNearest{0, 0, impl.OK}}, {77777, 90000, codedNearest{0, 0, impl.OK}}, {77777, -90000, codedNearest{4, 0, impl.OK}},
		{0, 89000, codedNearest{5, 0, impl.OK}}, {180000, 89000, codedNearest{6, 0, impl.OK}}, {180000, 88000, codedNearest{6, 1000, impl.OK}},
		{0, -89000, codedNearest{4, 1000, impl.OK}}, {180000, -88000, codedNearest{7, 1000, impl.OK}},
	}
	for _, c := range cases {
		call := fmt.Sprintf("NearestStar(around, %d, %d)", c.right, c.declination)
		checkResult(t, call, nearestOf(around, c.right, c.declination), c.want)
	}
	// From the poles, all stars of the same declination are at the same distance; stars may also be at the same place.
	circle := []impl.Star{starAt("a", 270000, 60000), starAt("b", 0, 60000), starAt("c", 180000, 60000), starAt("d", 0, 60000), starAt("e", 90000, 0)}
	checkResult(t, "NearestStar of a circle", nearestOf(circle, 5, 90000), codedNearest{0, 30000, impl.OK})
	checkResult(t, "NearestStar of a part of a circle", nearestOf(circle[1:], 5, 90000), codedNearest{0, 30000, impl.OK})
	checkResult(t, "NearestStar at two stars", nearestOf(circle, 0, 60000), codedNearest{1, 0, impl.OK})
	checkResult(t, "NearestStar opposite to all", nearestOf(circle[:4], 0, -90000), codedNearest{0, 150000, impl.OK})
	checkResult(t, "NearestStar opposite to one", nearestOf(circle[4:], 270000, 0), codedNearest{0, 180000, impl.OK})
	for _, none := range [][]impl.Star{nil, {}} {
		checkResult(t, "NearestStar of no stars", nearestOf(none, 0, 0), codedNearest{0, 0, impl.ErrNotFound})
		checkResult(t, "NearestStar of no stars", nearestOf(none, 359999, -90000), codedNearest{0, 0, impl.ErrNotFound})
	}
}

// plainDistances follows the text of the document.
func plainDistances(sines []int64, list []impl.Star, right, declination int64) []int64 {
	found, middle := []int64{}, plainDirection(sines, right, declination)
	for _, x := range list {
		found = append(found, plainSeparation(sines, plainDirection(sines, x.Right, x.Declination), middle).value)
	}
	return found
}

func TestP6TheNearestStarIsNearest(t *testing.T) {
	sines, random := allSines(), rand.New(rand.NewSource(34))
	for i := range 200 {
		list, right, declination := randomStars(random, 1+random.Intn(impl.MaxStars)), randomRight(random), randomDeclination(random)
		if i%5 == 0 {
			x := list[random.Intn(len(list))]
			right, declination = x.Right, x.Declination
		}
		found := plainDistances(sines, list, right, declination)
		nearest := slices.Min(found)
		want := codedNearest{int64(slices.Index(found, nearest)), nearest, impl.OK}
		checkResult(t, fmt.Sprintf("NearestStar(%v, %d, %d)", list, right, declination), nearestOf(list, right, declination), want)
		for _, radius := range append(found, nearest+1, nearest-1, 0, 90000, 180000) {
			if radius < 0 || radius > 180000 {
				continue
			}
			within := slices.DeleteFunc(allIndices(len(list)), func(k int64) bool { return found[k] > radius })
			call := fmt.Sprintf("StarsWithin(%v, %d, %d, %d)", list, right, declination, radius)
			checkResult(t, call, codedMany(impl.StarsWithin(list, right, declination, radius)), codedMany(within, impl.OK))
		}
	}
}

// Promise 6: texts.

var starTexts = textForm[impl.Star]{"Star", impl.StarText, impl.ReadStar}

func TestP6StarIsReadBack(t *testing.T) {
	cases := []struct {
		x    impl.Star
		text string
	}{
		{starAt("a", 0, 0), "a 0 0 0 0"}, {star("sirius", 101287, -16716, -146, 0), "sirius 101287 -16716 -146 0"}, {star("vega", 279000, 38780, 3, -1), "vega 279000 38780 3 -1"},
		{star("a", 0, -90000, -200, -50), "a 0 -90000 -200 -50"}, {star("abcdefghij", 359999, 90000, 800, 250), "abcdefghij 359999 90000 800 250"},
		{star("z9", 1, -1, -1, -1), "z9 1 -1 -1 -1"}, {star("b0", 10, 100, -10, 200), "b0 10 100 -10 200"},
	}
	for _, c := range cases {
		starTexts.checkReadBack(t, c.x, c.text)
	}
	random := rand.New(rand.NewSource(35))
	for _, x := range slices.Concat(fewStars(), aroundStars(), randomStars(random, 100)) {
		starTexts.checkReadBack(t, x, fmt.Sprintf("%s %d %d %d %d", x.Id, x.Right, x.Declination, x.Magnitude, x.Colour))
	}
}

func TestP6StarTextRefuses(t *testing.T) { starTexts.checkNoTexts(t, invalidStars()) }

func TestP6ReadStarRefuses(t *testing.T) {
	texts := []string{
		"a -1 0 0 0", "a 360000 0 0 0", "a 0 -90001 0 0", "a 0 90001 0 0", "a 0 0 -201 0", "a 0 0 801 0", "a 0 0 0 -51", "a 0 0 0 251",
		" 0 0 0 0", "A 0 0 0 0", "7 0 0 0 0", "abcdefghijk 0 0 0 0", "a-b 0 0 0 0", "- 0 0 0 0", "é 0 0 0 0", "0 0 0 0 0", "a\x00 0 0 0 0",
		"a", "a ", "a 0", "a 0 0", "a 0 0 0", "a 0 0 0 ", "a 0 0 0 0 ", " a 0 0 0 0", "a  0 0 0 0", "a 0  0 0 0", "a 0 0 0  0", "a 0 0  0", "a 0 0 0 0 0", "a b 0 0 0 0",
		"a 0 0 0 0\n", "a\t0 0 0 0", "a 0 0 0\t0", "a 0\u00a00 0 0", "a,0,0,0,0", "a 0,0,0,0", "a 0 0 0 0,", "a0 0 0 0", "0 0 0 0", "0 0 0 0 a", "a 0 0 0 0 -", "\xff 0 0 0 0", "a 0 0 0 \u0660",
	}
	for _, word := range []string{"+0", "-0", "00", "01", "+1", "--1", "-", "-01", "1-", "1.0", "1e0", "0x1", "1_0", "", "b", "9223372036854775808", "-9223372036854775809", "18446744073709551616"} {
		texts = append(texts, "a "+word+" 0 0 0", "a 0 "+word+" 0 0", "a 0 0 "+word+" 0", "a 0 0 0 "+word)
	}
	texts = append(texts, "a "+strings.Repeat("0", 100)+" 0 0 0", "a"+strings.Repeat(" 0", 10000), strings.Repeat("a", 10000)+" 0 0 0 0")
	starTexts.checkNotRead(t, append(texts, edgeTexts()...))
}

func TestP6ReadStarRefusesChangedBytes(t *testing.T) {
	whole := "vega 279000 -38780 30 -5"
	starTexts.checkChanged(t, whole)
	starTexts.checkNoParts(t, whole)
}
