package tests

import (
	"fmt"
	"math"
	"math/big"
	"math/rand"
	"slices"
	"strings"
	"testing"

	"loop.example/g00955/impl"
)

// codedNumber is a result with its code.
type codedNumber struct{ value, code int64 }

func coded(value, code int64) codedNumber { return codedNumber{value, code} }

// hoursAndMinutes is a result of HoursOf.
type hoursAndMinutes struct{ hours, minutes, code int64 }

func codedHours(a int64) hoursAndMinutes {
	hours, minutes, code := impl.HoursOf(a)
	return hoursAndMinutes{hours, minutes, code}
}

// edgeAngles are angles around which quadrants, turns and overflows lie.
func edgeAngles() []int64 {
	list := []int64{minInt, minInt + 1, minInt + 90000, minInt + 360000, maxInt - 360000, maxInt - 90000, maxInt - 1, maxInt}
	for _, a := range []int64{0, 45000, 90000, 180000, 270000, 360000, 540000, 720000, 3600000, impl.MaxValue} {
		for near := int64(-2); near <= 2; near++ {
			list = append(list, a+near, -a+near)
		}
	}
	return list
}

// Promise 1, for the functions of chapter 2.

func TestP1AnglesReturnEqualResults(t *testing.T) {
	for _, a := range append(edgeAngles(), edgeNumbers()...) {
		checkRepeats(t, fmt.Sprintf("functions of the angle %d", a), func() []any {
			return []any{
				impl.NormalAngle(a), impl.SineOf(a), impl.CosineOf(a), coded(impl.ArcSine(a)), coded(impl.ArcCosine(a)),
				codedHours(a), impl.AngleText(a), coded(impl.MeanAngle([]int64{a, 5, a})),
			}
		})
		for _, b := range edgeAngles() {
			checkRepeats(t, fmt.Sprintf("functions of the angles %d, %d", a, b), func() []any {
				return []any{
					impl.AngleBetween(a, b), impl.SignedBetween(a, b), coded(impl.ArcTangent(a, b)),
					coded(impl.TurnTowards(a, b, 1000)), coded(impl.TurnTowards(a, 7, b)), coded(impl.AngleOfHours(a, b)),
				}
			})
		}
	}
	for _, s := range edgeTexts() {
		checkRepeats(t, fmt.Sprintf("ReadAngle(%.40q)", s), func() []any {
			a, ok := impl.ReadAngle(s)
			return []any{a, ok}
		})
	}
}

func TestP1MeanAngleKeepsItsArgument(t *testing.T) {
	lists := [][]int64{
		nil, {}, {0}, {370000, -10000, 10000}, {0, 180000}, {minInt, maxInt},
		make([]int64, impl.MaxList), make([]int64, impl.MaxList+1),
	}
	for _, list := range lists {
		checkKept(t, "MeanAngle", list, func(l []int64) { impl.MeanAngle(l) })
	}
}

// Promise 3: turns.

func TestP3AngleConstants(t *testing.T) {
	checkResult(t, "constants", []int64{impl.Circle, impl.Unit, impl.Hour}, []int64{360000, 1000000, 15000})
}

// plainForwards returns b - a modulo Circle, with numbers of any size.
func plainForwards(a, b int64) int64 {
	difference := new(big.Int).Sub(big.NewInt(b), big.NewInt(a))
	return difference.Mod(difference, big.NewInt(360000)).Int64()
}

func TestP3NormalAngle(t *testing.T) {
	cases := [][2]int64{
		{0, 0}, {1, 1}, {359999, 359999}, {360000, 0}, {360001, 1}, {720000, 0}, {-1, 359999}, {-359999, 1},
		{-360000, 0}, {-360001, 359999}, {-720000, 0}, {-720001, 359999}, {maxInt, 55807}, {minInt, 304192},
	}
	for _, c := range cases {
		checkResult(t, fmt.Sprintf("NormalAngle(%d)", c[0]), impl.NormalAngle(c[0]), c[1])
	}
	for _, a := range edgeAngles() {
		checkResult(t, fmt.Sprintf("NormalAngle(%d)", a), impl.NormalAngle(a), plainForwards(0, a))
	}
}

func TestP3AngleBetween(t *testing.T) {
	cases := [][3]int64{
		{350000, 20000, 30000}, {20000, 350000, 30000}, {0, 0, 0}, {0, 360000, 0}, {-360000, 720000, 0},
		{0, 180000, 180000}, {180000, 0, 180000}, {0, 179999, 179999}, {0, 180001, 179999}, {-10000, 10000, 20000},
		{-1, 1, 2}, {1, -1, 2}, {minInt, maxInt, 111615}, {maxInt, minInt, 111615}, {minInt, minInt, 0}, {maxInt, maxInt, 0},
	}
	for _, c := range cases {
		checkResult(t, fmt.Sprintf("AngleBetween(%d, %d)", c[0], c[1]), impl.AngleBetween(c[0], c[1]), c[2])
	}
	for _, a := range edgeAngles() {
		for _, b := range edgeAngles() {
			want := min(plainForwards(a, b), plainForwards(b, a))
			checkResult(t, fmt.Sprintf("AngleBetween(%d, %d)", a, b), impl.AngleBetween(a, b), want)
		}
	}
}

func TestP3SignedBetween(t *testing.T) {
	cases := [][3]int64{
		{20000, 350000, -30000}, {350000, 20000, 30000}, {0, 0, 0}, {0, 360000, 0}, {720000, -360000, 0},
		{0, 180000, 180000}, {180000, 0, 180000}, {90000, 270000, 180000}, {270000, 90000, 180000},
		{0, -180000, 180000}, {-180000, 0, 180000}, {0, 179999, 179999}, {0, 180001, -179999}, {180001, 0, 179999},
		{-1, 1, 2}, {1, -1, -2}, {minInt, maxInt, 111615}, {maxInt, minInt, -111615}, {minInt, minInt, 0},
	}
	for _, c := range cases {
		checkResult(t, fmt.Sprintf("SignedBetween(%d, %d)", c[0], c[1]), impl.SignedBetween(c[0], c[1]), c[2])
	}
	for _, a := range edgeAngles() {
		for _, b := range edgeAngles() {
			want := plainForwards(a, b)
			if want > 180000 {
				want -= 360000
			}
			checkResult(t, fmt.Sprintf("SignedBetween(%d, %d)", a, b), impl.SignedBetween(a, b), want)
		}
	}
}

// Promise 3: sines.

// wholeSine returns the sine of 0 to 90 whole degrees; the table of the document is rounded to the nearest millionth.
func wholeSine(degrees int64) int64 {
	return int64(math.Round(math.Sin(float64(degrees)*math.Pi/180) * 1000000))
}

// plainSine follows the text of the document for an angle from 0 to 359999.
func plainSine(a int64) int64 {
	switch {
	case a >= 180000:
		return -plainSine(a - 180000)
	case a > 90000:
		return plainSine(180000 - a)
	case a == 90000:
		return 1000000
	}
	below := a / 1000
	return plainBlend(below*1000, wholeSine(below), below*1000+1000, wholeSine(below+1), a)
}

// allSines returns the plain sines of all angles of a full turn.
func allSines() []int64 {
	list := make([]int64, 360000)
	for a := range list {
		list[a] = plainSine(int64(a))
	}
	return list
}

func TestP3SineCases(t *testing.T) {
	cases := [][3]int64{
		{0, 0, 1000000}, {90000, 1000000, 0}, {180000, 0, -1000000}, {270000, -1000000, 0}, {360000, 0, 1000000},
		{-90000, -1000000, 0}, {-180000, 0, -1000000}, {-270000, 1000000, 0}, {-360000, 0, 1000000},
		{30000, 500000, 866025}, {60000, 866025, 500000}, {45000, 707107, 707107}, {135000, 707107, -707107},
		{150000, 500000, -866025}, {210000, -500000, -866025}, {300000, -866025, 500000}, {-30000, -500000, 866025},
		{1000, 17452, 999848}, {500, 8726, 999924}, {-500, -8726, 999924}, {1, 17, 1000000}, {-1, -17, 1000000},
		{89500, 999924, 8726}, {90500, 999924, -8726}, {750, 13089, 999886}, {-1234, -21535, 999741},
	}
	for _, c := range cases {
		checkResult(t, fmt.Sprintf("SineOf(%d)", c[0]), impl.SineOf(c[0]), c[1])
		checkResult(t, fmt.Sprintf("CosineOf(%d)", c[0]), impl.CosineOf(c[0]), c[2])
	}
}

func TestP3SinesOfAllAngles(t *testing.T) {
	sines := allSines()
	for a := int64(-360000); a < 360000; a++ {
		sine, cosine := sines[plainForwards(0, a)], sines[plainForwards(-90000, a)]
		if impl.SineOf(a) != sine || impl.CosineOf(a) != cosine {
			t.Fatalf("angle %d: sine %d, cosine %d, want %d, %d", a, impl.SineOf(a), impl.CosineOf(a), sine, cosine)
		}
	}
	for _, a := range edgeAngles() {
		checkResult(t, fmt.Sprintf("SineOf(%d)", a), impl.SineOf(a), sines[plainForwards(0, a)])
		checkResult(t, fmt.Sprintf("CosineOf(%d)", a), impl.CosineOf(a), sines[plainForwards(-90000, a)])
	}
}

// Promise 3: arcs.

func TestP3ArcSine(t *testing.T) {
	sines := allSines()
	want := int64(-90000)
	for v := int64(-impl.Unit); v <= impl.Unit; v++ {
		for sines[plainForwards(0, want)] < v {
			want++
		}
		near := v+impl.Unit < 2000 || impl.Unit-v < 2000 || v > -2000 && v < 2000
		if !near && v%7 != 0 {
			continue
		}
		if got, code := impl.ArcSine(v); got != want || code != impl.OK {
			t.Fatalf("ArcSine(%d): got %d, %d, want %d, 0", v, got, code, want)
		}
	}
	cases := [][2]int64{{-impl.Unit, -90000}, {0, 0}, {500000, 30000}, {-500000, -30000}, {impl.Unit, 89997}, {1, 1}, {17, 1}, {18, 2}, {-1, 0}, {-17, -1}}
	for _, c := range cases {
		checkResult(t, fmt.Sprintf("ArcSine(%d)", c[0]), coded(impl.ArcSine(c[0])), coded(c[1], impl.OK))
	}
}

func TestP3ArcCosine(t *testing.T) {
	sines := allSines()
	want := int64(0)
	for v := int64(impl.Unit); v >= -impl.Unit; v-- {
		for sines[plainForwards(-90000, want)] > v {
			want++
		}
		near := v+impl.Unit < 2000 || impl.Unit-v < 2000 || v > -2000 && v < 2000
		if !near && v%7 != 0 {
			continue
		}
		if got, code := impl.ArcCosine(v); got != want || code != impl.OK {
			t.Fatalf("ArcCosine(%d): got %d, %d, want %d, 0", v, got, code, want)
		}
	}
	cases := [][2]int64{{-impl.Unit, 179997}, {0, 90000}, {500000, 60000}, {-500000, 120000}, {impl.Unit, 0}, {999999, 4}}
	for _, c := range cases {
		checkResult(t, fmt.Sprintf("ArcCosine(%d)", c[0]), coded(impl.ArcCosine(c[0])), coded(c[1], impl.OK))
	}
}

func TestP3ArcsRefuse(t *testing.T) {
	for _, v := range []int64{impl.Unit + 1, -impl.Unit - 1, impl.MaxValue, minInt, maxInt} {
		checkResult(t, fmt.Sprintf("ArcSine(%d)", v), coded(impl.ArcSine(v)), coded(0, impl.ErrRange))
		checkResult(t, fmt.Sprintf("ArcCosine(%d)", v), coded(impl.ArcCosine(v)), coded(0, impl.ErrRange))
	}
}

func TestP3SinesAndArcsLeadToEachOther(t *testing.T) {
	for a := int64(-90000); a <= 90000; a += 3 {
		back, code := impl.ArcSine(impl.SineOf(a))
		if code != impl.OK || back > a || impl.SineOf(back) != impl.SineOf(a) {
			t.Fatalf("the arc of the sine of %d: got %d, %d", a, back, code)
		}
		// Close to 90 degrees, neighbours have the same sine; elsewhere, the arc leads back exactly.
		if a%1000 == 0 && a < 90000 && back != a {
			t.Fatalf("the arc of the sine of %d whole degrees: got %d", a/1000, back)
		}
		turned := a + 90000
		back, code = impl.ArcCosine(impl.CosineOf(turned))
		if code != impl.OK || back > turned || impl.CosineOf(back) != impl.CosineOf(turned) {
			t.Fatalf("the arc of the cosine of %d: got %d, %d", turned, back, code)
		}
	}
}

// Promise 3: directions.

// plainTangent looks at one angle after the other, as the document says it.
func plainTangent(sines []int64, y, x int64) int64 {
	u, v := min(max(y, -y), max(x, -x)), max(max(y, -y), max(x, -x))
	b := int64(0)
	for sines[b]*v < sines[b+90000]*u {
		b++
	}
	if max(y, -y) > max(x, -x) {
		b = 90000 - b
	}
	switch {
	case x >= 0 && y >= 0:
		return b
	case y >= 0:
		return 180000 - b
	case x < 0:
		return 180000 + b
	}
	return (360000 - b) % 360000
}

func checkTangent(t *testing.T, sines []int64, y, x int64) {
	t.Helper()
	want := coded(plainTangent(sines, y, x), impl.OK)
	checkResult(t, fmt.Sprintf("ArcTangent(%d, %d)", y, x), coded(impl.ArcTangent(y, x)), want)
}

func TestP3ArcTangentCases(t *testing.T) {
	const most = impl.MaxValue
	cases := [][3]int64{
		{0, 1, 0}, {0, most, 0}, {1, 0, 90000}, {most, 0, 90000}, {0, -1, 180000}, {0, -most, 180000},
		{-1, 0, 270000}, {-5, 0, 270000}, {-most, 0, 270000},
		{1, 1, 45000}, {1, -1, 135000}, {-1, -1, 225000}, {-1, 1, 315000},
		{most, most, 45000}, {most, -most, 135000}, {-most, -most, 225000}, {-most, most, 315000},
		{1, most, 1}, {most, 1, 89999}, {most, -1, 90001}, {1, -most, 179999},
		{-1, -most, 180001}, {-most, -1, 269999}, {-most, 1, 270001}, {-1, most, 359999},
		{500000, 866025, 30000}, {866025, 500000, 60000}, {-500000, 866025, 330000}, {-866025, -500000, 240000},
	}
	for _, c := range cases {
		checkResult(t, fmt.Sprintf("ArcTangent(%d, %d)", c[0], c[1]), coded(impl.ArcTangent(c[0], c[1])), coded(c[2], impl.OK))
	}
}

func TestP3ArcTangentEverywhere(t *testing.T) {
	sines := allSines()
	edges := []int64{-impl.MaxValue, -impl.MaxValue + 1, -1000000, -17, -2, -1, 0, 1, 2, 57, 58, 999999, impl.MaxValue - 1, impl.MaxValue}
	for _, y := range edges {
		for _, x := range edges {
			if y != 0 || x != 0 {
				checkTangent(t, sines, y, x)
			}
		}
	}
	random := rand.New(rand.NewSource(5))
	for range 1500 {
		limit := int64(1) << (1 + random.Intn(39))
		checkTangent(t, sines, 1+random.Int63n(limit), random.Int63n(2*limit)-limit)
		checkTangent(t, sines, -1-random.Int63n(limit), random.Int63n(2*limit)-limit)
	}
}

func TestP3ArcTangentFindsDirections(t *testing.T) {
	for a := int64(0); a < impl.Circle; a += 7 {
		got, code := impl.ArcTangent(impl.SineOf(a), impl.CosineOf(a))
		if code != impl.OK || impl.AngleBetween(got, a) > 3 {
			t.Fatalf("ArcTangent of the sine and the cosine of %d: got %d, %d", a, got, code)
		}
	}
	for a := int64(0); a < impl.Circle; a += 1000 {
		checkResult(t, fmt.Sprintf("ArcTangent in the direction %d", a), coded(impl.ArcTangent(impl.SineOf(a), impl.CosineOf(a))), coded(a, impl.OK))
	}
}

func TestP3ArcTangentRefuses(t *testing.T) {
	checkResult(t, "ArcTangent(0, 0)", coded(impl.ArcTangent(0, 0)), coded(0, impl.ErrState))
	for _, n := range []int64{impl.MaxValue + 1, -impl.MaxValue - 1, minInt, maxInt} {
		for _, other := range []int64{0, 1, -1, impl.MaxValue, n} {
			checkResult(t, fmt.Sprintf("ArcTangent(%d, %d)", n, other), coded(impl.ArcTangent(n, other)), coded(0, impl.ErrRange))
			checkResult(t, fmt.Sprintf("ArcTangent(%d, %d)", other, n), coded(impl.ArcTangent(other, n)), coded(0, impl.ErrRange))
		}
	}
}

// Promise 3: means.

func TestP3MeanAngle(t *testing.T) {
	long := slices.Repeat([]int64{20000, 40000}, impl.MaxList/2)
	cases := []struct {
		list []int64
		want codedNumber
	}{
		{nil, coded(0, impl.ErrState)},
		{[]int64{}, coded(0, impl.ErrState)},
		{[]int64{0, 180000}, coded(0, impl.ErrState)},
		{[]int64{12345, 192345}, coded(0, impl.ErrState)},
		{[]int64{-90000, 90000}, coded(0, impl.ErrState)},
		{[]int64{0, 90000, 180000, 270000}, coded(0, impl.ErrState)},
		{[]int64{0, 180000, 90000}, coded(90000, impl.OK)},
		{[]int64{0}, coded(0, impl.OK)},
		{[]int64{-30000}, coded(330000, impl.OK)},
		{[]int64{390000}, coded(30000, impl.OK)},
		{[]int64{350000, 10000}, coded(0, impl.OK)},
		{[]int64{170000, 190000}, coded(180000, impl.OK)},
		{[]int64{0, 90000}, coded(45000, impl.OK)},
		{[]int64{180000, 270000}, coded(225000, impl.OK)},
		{long, coded(30000, impl.OK)},
		{append(slices.Clone(long), 30000), coded(0, impl.ErrFull)},
		{slices.Repeat([]int64{0, 180000}, impl.MaxList), coded(0, impl.ErrFull)},
		{make([]int64, impl.MaxList), coded(0, impl.OK)},
		{make([]int64, impl.MaxList+1), coded(0, impl.ErrFull)},
	}
	for _, c := range cases {
		checkResult(t, fmt.Sprintf("MeanAngle(%v)", c.list), coded(impl.MeanAngle(c.list)), c.want)
	}
}

func TestP3MeanAngleOfManyAngles(t *testing.T) {
	sines := allSines()
	random := rand.New(rand.NewSource(6))
	for range 500 {
		list := make([]int64, 1+random.Intn(impl.MaxList))
		y, x := int64(0), int64(0)
		for i := range list {
			list[i] = random.Int63() - random.Int63()
			y += sines[plainForwards(0, list[i])]
			x += sines[plainForwards(-90000, list[i])]
		}
		want := coded(0, impl.ErrState)
		if y != 0 || x != 0 {
			want = coded(plainTangent(sines, y, x), impl.OK)
		}
		checkResult(t, fmt.Sprintf("MeanAngle(%v)", list), coded(impl.MeanAngle(list)), want)
	}
}

// Promise 3: turning.

func TestP3TurnTowardsCases(t *testing.T) {
	cases := [][4]int64{
		{350000, 20000, 5000, 355000}, {350000, 20000, 29999, 19999}, {350000, 20000, 30000, 20000},
		{350000, 20000, 30001, 20000}, {350000, 20000, 0, 350000}, {350000, 20000, maxInt, 20000},
		{20000, 350000, 5000, 15000}, {20000, 350000, 29999, 350001}, {20000, 350000, 30000, 350000},
		{20000, 350000, 30001, 350000}, {20000, 350000, 0, 20000}, {20000, 350000, maxInt, 350000},
		{10000, 350000, 90000, 350000}, {0, 0, 0, 0}, {0, 0, 5, 0}, {-90000, -90000, 5, 270000}, {360000, 0, 7, 0},
		{0, 180000, 1000, 1000}, {180000, 0, 1000, 181000}, {0, 180000, 180000, 180000}, {180000, 0, 180000, 0},
		{minInt, minInt, 3, 304192}, {minInt, maxInt, 1, 304193}, {maxInt, minInt, 1, 55806},
		{minInt, maxInt, maxInt, 55807}, {maxInt, minInt, maxInt, 304192},
	}
	for _, c := range cases {
		call := fmt.Sprintf("TurnTowards(%d, %d, %d)", c[0], c[1], c[2])
		checkResult(t, call, coded(impl.TurnTowards(c[0], c[1], c[2])), coded(c[3], impl.OK))
	}
	for _, step := range []int64{-1, -180000, minInt} {
		for _, b := range []int64{0, 20000, 180000, 350000} {
			call := fmt.Sprintf("TurnTowards(0, %d, %d)", b, step)
			checkResult(t, call, coded(impl.TurnTowards(0, b, step)), coded(0, impl.ErrRange))
		}
	}
}

func TestP3TurningEndsAtTheAngle(t *testing.T) {
	for _, a := range edgeAngles() {
		for _, b := range edgeAngles() {
			for _, step := range []int64{7777, 45000, 180000} {
				now, left := a, impl.AngleBetween(a, b)
				for left > 0 {
					next, code := impl.TurnTowards(now, b, step)
					rest := impl.AngleBetween(next, b)
					if code != impl.OK || rest != max(left-step, 0) {
						t.Fatalf("TurnTowards(%d, %d, %d): got %d, %d, at %d from the end", now, b, step, next, code, rest)
					}
					now, left = next, rest
				}
				checkResult(t, fmt.Sprintf("TurnTowards(%d, %d, %d) at the end", now, b, step),
					coded(impl.TurnTowards(now, b, step)), coded(plainForwards(0, b), impl.OK))
			}
		}
	}
}

// Promise 3: hours.

func TestP3HoursLeadToAngles(t *testing.T) {
	for hours := range int64(24) {
		for minutes := range int64(60) {
			a := hours*15000 + minutes*250
			checkResult(t, fmt.Sprintf("AngleOfHours(%d, %d)", hours, minutes), coded(impl.AngleOfHours(hours, minutes)), coded(a, impl.OK))
			for _, more := range []int64{0, 1, 249} {
				checkResult(t, fmt.Sprintf("HoursOf(%d)", a+more), codedHours(a+more), hoursAndMinutes{hours, minutes, impl.OK})
			}
		}
	}
	checkResult(t, "AngleOfHours(23, 59)", coded(impl.AngleOfHours(23, 59)), coded(359750, impl.OK))
	checkResult(t, "HoursOf(359999)", codedHours(impl.Circle-1), hoursAndMinutes{23, 59, impl.OK})
}

func TestP3HoursRefuse(t *testing.T) {
	pairs := [][2]int64{
		{24, 0}, {-1, 0}, {0, 60}, {0, -1}, {23, 60}, {24, 59}, {-1, -1}, {minInt, 0}, {maxInt, 0}, {0, minInt}, {0, maxInt},
	}
	for _, p := range pairs {
		checkResult(t, fmt.Sprintf("AngleOfHours(%d, %d)", p[0], p[1]), coded(impl.AngleOfHours(p[0], p[1])), coded(0, impl.ErrRange))
	}
	for _, a := range []int64{-1, impl.Circle, impl.Circle + 1, -impl.Circle, minInt, maxInt} {
		checkResult(t, fmt.Sprintf("HoursOf(%d)", a), codedHours(a), hoursAndMinutes{0, 0, impl.ErrRange})
	}
}

// Promise 3: texts.

func TestP3AngleIsReadBack(t *testing.T) {
	cases := []struct {
		a    int64
		text string
	}{
		{12345, "12.345"}, {0, "0.000"}, {1, "0.001"}, {-1, "-0.001"}, {-5, "-0.005"}, {50, "0.050"}, {-999, "-0.999"},
		{1000, "1.000"}, {-1000, "-1.000"}, {100020, "100.020"}, {359999, "359.999"}, {-359999, "-359.999"},
	}
	for _, c := range cases {
		checkResult(t, fmt.Sprintf("AngleText(%d)", c.a), impl.AngleText(c.a), c.text)
	}
	for a := int64(1 - impl.Circle); a < impl.Circle; a++ {
		s := impl.AngleText(a)
		if want := fmt.Sprintf("%d.%03d", max(a, -a)/1000, max(a, -a)%1000); strings.TrimPrefix(s, "-") != want || strings.HasPrefix(s, "-") != (a < 0) {
			t.Fatalf("AngleText(%d): got %q", a, s)
		}
		if got, ok := impl.ReadAngle(s); got != a || !ok {
			t.Fatalf("ReadAngle(%q): got %d, %t, want %d, true", s, got, ok, a)
		}
	}
}

func TestP3AngleTextRefuses(t *testing.T) {
	for _, a := range []int64{impl.Circle, -impl.Circle, impl.Circle + 1, -impl.Circle - 1, impl.MaxValue, minInt, minInt + 1, maxInt} {
		checkResult(t, fmt.Sprintf("AngleText(%d)", a), impl.AngleText(a), "")
	}
}

func TestP3ReadAngleRefuses(t *testing.T) {
	texts := []string{
		"12.34", "12.3456", "12", "12345", "12.", ".345", "-.345", ".", "-", "-.", "..", "1..345", "1.2.345", "12.345.", ".12.345",
		"12,345", "12 345", "12.3 5", " 12.345", "12.345 ", "12.345\n", "+12.345", "--1.000", "-+1.000", "1.-00", "1.+00", "1.00-",
		"012.345", "00.001", "-0.000", "+0.000", "-00.001", "000.000", "0", "-0", "0.0", "0.00", "0.0000",
		"360.000", "-360.000", "360.001", "-360.001", "999.999", "1000.000", "9223372036854775.807", "-9223372036854775.808",
		"9223372036854775.808", "18446744073709551.617", "99999999999999999999.000", "1e1.000", "0x1.000", "1_2.345", "a.bcd", "12.34a",
		"\u0661.000", "12.345\x00", "\xff.000", strings.Repeat("0", 1000) + "1.000",
	}
	for _, s := range append(texts, edgeTexts()...) {
		if a, ok := impl.ReadAngle(s); a != 0 || ok {
			t.Errorf("ReadAngle(%.60q): got %d, %t, want 0, false", s, a, ok)
		}
	}
}
