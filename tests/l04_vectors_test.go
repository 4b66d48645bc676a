package tests

import (
	"fmt"
	"math/big"
	"math/rand"
	"strings"
	"testing"

	"loop.example/g00955/impl"
)

// codedVector is a vector with its code.
type codedVector struct {
	vector impl.Vector
	code   int64
}

func codedPlace(v impl.Vector, code int64) codedVector { return codedVector{v, code} }

// codedAngles is a result of AnglesOf.
type codedAngles struct{ longitude, latitude, code int64 }

func anglesOf(v impl.Vector) codedAngles {
	longitude, latitude, code := impl.AnglesOf(v)
	return codedAngles{longitude, latitude, code}
}

func vec(x, y, z int64) impl.Vector { return impl.Vector{X: x, Y: y, Z: z} }

func opposite(v impl.Vector) impl.Vector { return vec(-v.X, -v.Y, -v.Z) }

// valid returns a vector with OK, if it is valid, and otherwise ErrState without a vector.
func valid(v impl.Vector) codedVector {
	for _, n := range []int64{v.X, v.Y, v.Z} {
		if n < -2000000 || n > 2000000 {
			return codedPlace(impl.Vector{}, impl.ErrState)
		}
	}
	return codedPlace(v, impl.OK)
}

const most = impl.MaxComponent

// edgeVectors are valid vectors of all lengths and in all octants.
func edgeVectors() []impl.Vector {
	list := []impl.Vector{
		vec(3, 4, 12), vec(-3, 4, 0), vec(1, 2, 3), vec(707107, 707107, 0), vec(0, 500000, -866025),
		vec(most, most-1, 1-most), vec(12345, -1999999, 1000001), vec(500, 500, 500), vec(1000, -1000, 500),
	}
	numbers := []int64{-most, -1000000, -1, 0, 1, most}
	for _, x := range numbers {
		for _, y := range numbers {
			for _, z := range numbers {
				list = append(list, vec(x, y, z))
			}
		}
	}
	return list
}

// invalidVectors are too great in one component or in all of them.
func invalidVectors() []impl.Vector {
	list := []impl.Vector{}
	for _, n := range []int64{most + 1, -most - 1, 2 * most, impl.MaxValue, -impl.MaxValue, minInt, minInt + 1, maxInt} {
		for _, other := range []int64{0, 1, most} {
			list = append(list, vec(n, other, -other), vec(other, n, -other), vec(other, -other, n))
		}
		list = append(list, vec(n, n, n))
	}
	return list
}

func randomVector(random *rand.Rand, size int64) impl.Vector {
	component := func() int64 { return random.Int63n(2*size+1) - size }
	return vec(component(), component(), component())
}

// manyVectors are the edge vectors and random ones of all sizes.
func manyVectors(seed int64, count int) []impl.Vector {
	list, random := edgeVectors(), rand.New(rand.NewSource(seed))
	for range count {
		for _, size := range []int64{3, 1000, 1000000, most} {
			list = append(list, randomVector(random, size))
		}
	}
	return list
}

// The directions of the axes of space.
var (
	alongX = vec(1000000, 0, 0)
	alongY = vec(0, 1000000, 0)
	alongZ = vec(0, 0, 1000000)
)

// Promise 1, for the functions of chapter 4.

func TestP1VectorsReturnEqualResults(t *testing.T) {
	vectors := append(edgeVectors(), invalidVectors()...)
	for i, v := range vectors {
		w := vectors[(7*i+5)%len(vectors)]
		checkRepeats(t, fmt.Sprintf("functions of the vectors %v, %v", v, w), func() []any {
			return []any{
				impl.ValidVector(v), anglesOf(v), coded(impl.LengthOf(v)), codedPlace(impl.NormalVector(v)), impl.VectorText(v),
				coded(impl.DotOf(v, w)), codedPlace(impl.CrossOf(v, w)), coded(impl.Separation(v, w)),
			}
		})
		for _, n := range append(edgeNumbers(), 4, 500, 1000, 1001, 90000) {
			checkRepeats(t, fmt.Sprintf("functions of the vectors %v, %v and the number %d", v, w, n), func() []any {
				return []any{
					codedPlace(impl.RotateAround(v, n, 30000)), codedPlace(impl.RotateAround(v, impl.AxisX, n)),
					codedPlace(impl.RotateAround(v, impl.AxisY, n)), codedPlace(impl.RotateAround(v, impl.AxisZ, n)),
					codedPlace(impl.BlendVectors(v, w, n)),
				}
			})
		}
	}
}

func TestP1DirectionsReturnEqualResults(t *testing.T) {
	for _, a := range append(edgeAngles(), edgeNumbers()...) {
		for _, b := range append(edgeAngles(), edgeNumbers()...) {
			checkRepeats(t, fmt.Sprintf("DirectionOf(%d, %d)", a, b), func() []any {
				return []any{codedPlace(impl.DirectionOf(a, b))}
			})
		}
	}
	for _, s := range edgeTexts() {
		checkRepeats(t, fmt.Sprintf("ReadVector(%.40q)", s), func() []any {
			v, ok := impl.ReadVector(s)
			return []any{v, ok}
		})
	}
}

// Promise 5: valid vectors.

func TestP5VectorConstants(t *testing.T) {
	constants := []int64{impl.MaxComponent, impl.AxisX, impl.AxisY, impl.AxisZ}
	checkResult(t, "constants", constants, []int64{2000000, 1, 2, 3})
}

func TestP5ValidVector(t *testing.T) {
	for _, n := range []int64{-2000000, -1999999, -1, 0, 1, 1999999, 2000000} {
		for _, v := range []impl.Vector{vec(n, 0, 0), vec(0, n, 0), vec(0, 0, n), vec(n, -n, n)} {
			checkResult(t, fmt.Sprintf("ValidVector(%v)", v), impl.ValidVector(v), true)
		}
	}
	for _, n := range []int64{-2000001, 2000001} {
		for _, v := range []impl.Vector{vec(n, 0, 0), vec(0, n, 0), vec(0, 0, n), vec(n, n, n)} {
			checkResult(t, fmt.Sprintf("ValidVector(%v)", v), impl.ValidVector(v), false)
		}
	}
	for _, v := range edgeVectors() {
		checkResult(t, fmt.Sprintf("ValidVector(%v)", v), impl.ValidVector(v), true)
	}
	for _, v := range invalidVectors() {
		checkResult(t, fmt.Sprintf("ValidVector(%v)", v), impl.ValidVector(v), false)
	}
}

func TestP5InvalidVectorsAreRefusedFirst(t *testing.T) {
	number, vector := coded(0, impl.ErrInvalid), codedPlace(impl.Vector{}, impl.ErrInvalid)
	for _, v := range invalidVectors() {
		checkResult(t, fmt.Sprintf("AnglesOf(%v)", v), anglesOf(v), codedAngles{0, 0, impl.ErrInvalid})
		checkResult(t, fmt.Sprintf("LengthOf(%v)", v), coded(impl.LengthOf(v)), number)
		checkResult(t, fmt.Sprintf("NormalVector(%v)", v), codedPlace(impl.NormalVector(v)), vector)
		checkResult(t, fmt.Sprintf("VectorText(%v)", v), impl.VectorText(v), "")
		for _, axis := range []int64{impl.AxisX, impl.AxisY, impl.AxisZ, 0, 4, -1, minInt, maxInt} {
			checkResult(t, fmt.Sprintf("RotateAround(%v, %d, 0)", v, axis), codedPlace(impl.RotateAround(v, axis, 0)), vector)
		}
		for _, w := range []impl.Vector{{}, alongX, vec(most, most, most), v} {
			for _, pair := range [][2]impl.Vector{{v, w}, {w, v}} {
				a, b := pair[0], pair[1]
				checkResult(t, fmt.Sprintf("DotOf(%v, %v)", a, b), coded(impl.DotOf(a, b)), number)
				checkResult(t, fmt.Sprintf("CrossOf(%v, %v)", a, b), codedPlace(impl.CrossOf(a, b)), vector)
				checkResult(t, fmt.Sprintf("Separation(%v, %v)", a, b), coded(impl.Separation(a, b)), number)
				for _, share := range []int64{0, 500, 1000, -1, 1001, minInt, maxInt} {
					checkResult(t, fmt.Sprintf("BlendVectors(%v, %v, %d)", a, b, share), codedPlace(impl.BlendVectors(a, b, share)), vector)
				}
			}
		}
	}
}

// Promise 5: directions.

func TestP5DirectionCases(t *testing.T) {
	cases := []struct {
		longitude, latitude int64
		want                impl.Vector
	}{
		{0, 0, alongX}, {90000, 0, alongY}, {180000, 0, opposite(alongX)}, {270000, 0, opposite(alongY)},
		{0, 90000, alongZ}, {123456, 90000, alongZ}, {0, -90000, opposite(alongZ)}, {-77, -90000, opposite(alongZ)},
		{360000, 0, alongX}, {-90000, 0, opposite(alongY)}, {450000, 0, alongY}, {-360000, 0, alongX}, {-180000, 0, opposite(alongX)},
		{45000, 0, vec(707107, 707107, 0)}, {30000, 0, vec(866025, 500000, 0)}, {240000, 0, vec(-500000, -866025, 0)},
		{0, 30000, vec(866025, 0, 500000)}, {0, -30000, vec(866025, 0, -500000)}, {180000, 60000, vec(-500000, 0, 866025)},
		{60000, 60000, vec(250000, 433013, 866025)}, {240000, -60000, vec(-250000, -433013, -866025)},
		{45000, 45000, vec(500000, 500000, 707107)}, {0, 1, vec(1000000, 0, 17)}, {0, 89999, vec(17, 0, 1000000)},
		{maxInt, 0, vec(561969, 827130, 0)}, {minInt, 0, vec(561955, -827140, 0)},
	}
	for _, c := range cases {
		checkResult(t, fmt.Sprintf("DirectionOf(%d, %d)", c.longitude, c.latitude), codedPlace(impl.DirectionOf(c.longitude, c.latitude)), codedPlace(c.want, impl.OK))
	}
}

func TestP5DirectionOfRefuses(t *testing.T) {
	for _, latitude := range []int64{-90001, 90001, 180000, -180000, 270000, 360000, minInt, maxInt} {
		for _, longitude := range []int64{0, 90000, -1, 360000, minInt, maxInt} {
			call := fmt.Sprintf("DirectionOf(%d, %d)", longitude, latitude)
			checkResult(t, call, codedPlace(impl.DirectionOf(longitude, latitude)), codedPlace(impl.Vector{}, impl.ErrRange))
		}
	}
}

// plainDirection follows the text of the document, with the sines of a full turn.
func plainDirection(sines []int64, longitude, latitude int64) impl.Vector {
	level := sines[plainForwards(-90000, latitude)]
	return vec(
		plainQuotient(level*sines[plainForwards(-90000, longitude)], 1000000),
		plainQuotient(level*sines[plainForwards(0, longitude)], 1000000),
		sines[plainForwards(0, latitude)])
}

func TestP5DirectionsEverywhere(t *testing.T) {
	sines, random := allSines(), rand.New(rand.NewSource(11))
	longitudes, latitudes := edgeAngles(), []int64{-90000, -89999, -1, 0, 1, 45000, 89999, 90000}
	for range 50 {
		longitudes = append(longitudes, random.Int63()-random.Int63(), random.Int63n(360000))
		latitudes = append(latitudes, random.Int63n(180001)-90000)
	}
	for _, longitude := range longitudes {
		for _, latitude := range latitudes {
			got, want := codedPlace(impl.DirectionOf(longitude, latitude)), codedPlace(plainDirection(sines, longitude, latitude), impl.OK)
			if got != want {
				t.Fatalf("DirectionOf(%d, %d): got %v, want %v", longitude, latitude, got, want)
			}
		}
	}
}

func TestP5AnglesCases(t *testing.T) {
	cases := []struct {
		v                   impl.Vector
		longitude, latitude int64
	}{
		{alongX, 0, 0}, {opposite(alongX), 180000, 0}, {alongY, 90000, 0}, {opposite(alongY), 270000, 0}, {alongZ, 0, 90000}, {opposite(alongZ), 0, -90000},
		{vec(1, 0, 0), 0, 0}, {vec(-1, 0, 0), 180000, 0}, {vec(0, 1, 0), 90000, 0}, {vec(0, -5, 0), 270000, 0}, {vec(0, 0, 1), 0, 90000}, {vec(0, 0, -1), 0, -90000},
		{vec(most, 0, 0), 0, 0}, {vec(-most, 0, 0), 180000, 0}, {vec(0, most, 0), 90000, 0}, {vec(0, -most, 0), 270000, 0}, {vec(0, 0, most), 0, 90000}, {vec(0, 0, -most), 0, -90000},
		{vec(5, 5, 0), 45000, 0}, {vec(-5, 5, 0), 135000, 0}, {vec(-5, -5, 0), 225000, 0}, {vec(5, -5, 0), 315000, 0},
		{vec(5, 0, 5), 0, 45000}, {vec(5, 0, -5), 0, -45000}, {vec(0, -5, -5), 270000, -45000}, {vec(-5, 0, 5), 180000, 45000},
		{vec(3, 4, 5), 53130, 45000}, {vec(3, 4, -5), 53130, -45000}, {vec(1, 1, 1), 45000, 45000}, {vec(1, 1, -1), 45000, -45000},
		{vec(866025, 0, -500000), 0, -30000}, {vec(1000000, 0, -17), 0, -1}, {vec(most, 0, -1), 0, -1}, {vec(most, 0, 1), 0, 1}, {vec(1, 0, most), 0, 89999},
	}
	for _, c := range cases {
		checkResult(t, fmt.Sprintf("AnglesOf(%v)", c.v), anglesOf(c.v), codedAngles{c.longitude, c.latitude, impl.OK})
	}
	checkResult(t, "AnglesOf the vector without a length", anglesOf(impl.Vector{}), codedAngles{0, 0, impl.ErrState})
}

// plainRoot returns the square root, rounded down, with numbers of any size.
func plainRoot(n int64) int64 { return new(big.Int).Sqrt(big.NewInt(n)).Int64() }

// plainAngles follows the text of the document for a valid vector.
func plainAngles(sines []int64, v impl.Vector) codedAngles {
	if v.X == 0 && v.Y == 0 && v.Z == 0 {
		return codedAngles{0, 0, impl.ErrState}
	}
	longitude := int64(0)
	if v.X != 0 || v.Y != 0 {
		longitude = plainTangent(sines, v.Y, v.X)
	}
	latitude := plainTangent(sines, v.Z, plainRoot(v.X*v.X+v.Y*v.Y))
	if latitude > 90000 {
		latitude -= 360000
	}
	return codedAngles{longitude, latitude, impl.OK}
}

func TestP5AnglesEverywhere(t *testing.T) {
	sines := allSines()
	for _, v := range manyVectors(12, 500) {
		checkResult(t, fmt.Sprintf("AnglesOf(%v)", v), anglesOf(v), plainAngles(sines, v))
	}
}

func sizeOf(n int64) int64 { return max(n, -n) }

// farthest returns the greatest difference of the components of two vectors.
func farthest(a, b impl.Vector) int64 { return max(sizeOf(a.X-b.X), sizeOf(a.Y-b.Y), sizeOf(a.Z-b.Z)) }

// checkAnglesOfDirection checks that the angles of a direction are those that it was made of.
// Sines between whole degrees are less than they should be, which moves latitudes by up to 2; near a pole, a longitude
// may be off as far as it matters less there.
func checkAnglesOfDirection(t *testing.T, longitude, latitude, mostOff int64) {
	t.Helper()
	v, code := impl.DirectionOf(longitude, latitude)
	angles := anglesOf(v)
	if code != impl.OK || angles.code != impl.OK || sizeOf(angles.latitude-latitude) > mostOff {
		t.Errorf("AnglesOf the direction %d, %d: got %v of %v", longitude, latitude, angles, v)
	}
	if impl.AngleBetween(angles.longitude, longitude)*impl.CosineOf(latitude) > impl.Unit {
		t.Errorf("AnglesOf the direction %d, %d: got %v of %v", longitude, latitude, angles, v)
	}
	if angles.longitude < 0 || angles.longitude >= impl.Circle || sizeOf(angles.latitude) > 90000 {
		t.Errorf("AnglesOf the direction %d, %d: got %v, which are no angles", longitude, latitude, angles)
	}
}

func TestP5DirectionsLeadToTheirAngles(t *testing.T) {
	for latitude := int64(-90); latitude <= 90; latitude++ {
		for longitude := int64(0); longitude < 360; longitude += 5 {
			checkAnglesOfDirection(t, longitude*1000, latitude*1000, 1)
			checkAnglesOfDirection(t, longitude*1000+7*latitude, latitude*999, 2)
		}
	}
	for longitude := int64(0); longitude < impl.Circle; longitude += 7 {
		v, _ := impl.DirectionOf(longitude, 0)
		checkResult(t, fmt.Sprintf("AnglesOf the direction %d, 0", longitude), anglesOf(v), codedAngles{longitude, 0, impl.OK})
	}
}

func TestP5AnglesLeadToTheirDirections(t *testing.T) {
	random := rand.New(rand.NewSource(13))
	for range 20000 {
		v, code := impl.NormalVector(randomVector(random, 1000000))
		angles := anglesOf(v)
		back, backCode := impl.DirectionOf(angles.longitude, angles.latitude)
		if code != impl.OK || angles.code != impl.OK || backCode != impl.OK || farthest(v, back) > 100 {
			t.Fatalf("DirectionOf the angles %v of %v: got %v, %d", angles, v, back, backCode)
		}
	}
}

// Promise 5: products.

func TestP5LengthCases(t *testing.T) {
	cases := []struct {
		v    impl.Vector
		want int64
	}{
		{vec(0, 0, 0), 0}, {vec(1, 0, 0), 1}, {vec(0, -1, 0), 1}, {vec(0, 0, 1), 1}, {vec(1, 1, 0), 1}, {vec(1, 1, 1), 1}, {vec(2, 0, 0), 2},
		{vec(3, 4, 12), 13}, {vec(-3, 4, -12), 13}, {vec(1, 1, -2), 2}, {alongZ, 1000000}, {vec(-most, 0, 0), 2000000}, {vec(most, most, 0), 2828427},
		{vec(most, most, most), 3464101}, {vec(-most, most, -most), 3464101}, {vec(most, most, most-1), 3464101},
	}
	for _, c := range cases {
		checkResult(t, fmt.Sprintf("LengthOf(%v)", c.v), coded(impl.LengthOf(c.v)), coded(c.want, impl.OK))
	}
	for _, v := range manyVectors(14, 500) {
		want := coded(plainRoot(v.X*v.X+v.Y*v.Y+v.Z*v.Z), impl.OK)
		checkResult(t, fmt.Sprintf("LengthOf(%v)", v), coded(impl.LengthOf(v)), want)
	}
}

func TestP5DotCases(t *testing.T) {
	greatest := vec(most, most, most)
	cases := []struct {
		a, b impl.Vector
		want int64
	}{
		{alongX, alongX, 1000000}, {alongX, alongY, 0}, {alongY, alongZ, 0}, {alongX, opposite(alongX), -1000000}, {alongZ, alongZ, 1000000},
		{greatest, greatest, 12000000}, {greatest, opposite(greatest), -12000000}, {greatest, vec(most, -most, 0), 0}, {greatest, vec(most, -most, most), 4000000},
		{impl.Vector{}, greatest, 0}, {greatest, impl.Vector{}, 0}, {impl.Vector{}, impl.Vector{}, 0},
		{vec(1, 2, 3), vec(1000000, 1000000, 1000000), 6}, {vec(707107, 707107, 0), vec(707107, -707107, 0), 0}, {vec(3, 4, 12), vec(3, 4, 12), 0},
		{vec(1, 0, 0), vec(500000, 0, 0), 1}, {vec(1, 0, 0), vec(499999, 0, 0), 0}, {vec(-1, 0, 0), vec(500000, 0, 0), -1}, {vec(-1, 0, 0), vec(499999, 0, 0), 0},
		{vec(1, 1, 1), vec(250000, 125000, 125000), 1}, {vec(707107, 0, 707107), alongZ, 707107},
	}
	for _, c := range cases {
		checkResult(t, fmt.Sprintf("DotOf(%v, %v)", c.a, c.b), coded(impl.DotOf(c.a, c.b)), coded(c.want, impl.OK))
	}
}

func TestP5CrossCases(t *testing.T) {
	none := codedPlace(impl.Vector{}, impl.ErrState)
	zero := codedPlace(impl.Vector{}, impl.OK)
	greatest := vec(most, most, most)
	cases := []struct {
		a, b impl.Vector
		want codedVector
	}{
		{alongX, alongY, codedPlace(alongZ, impl.OK)}, {alongY, alongZ, codedPlace(alongX, impl.OK)}, {alongZ, alongX, codedPlace(alongY, impl.OK)},
		{alongY, alongX, codedPlace(opposite(alongZ), impl.OK)}, {alongZ, alongY, codedPlace(opposite(alongX), impl.OK)},
		{alongX, alongZ, codedPlace(opposite(alongY), impl.OK)},
		{alongX, alongX, zero}, {alongX, opposite(alongX), zero}, {greatest, greatest, zero}, {greatest, opposite(greatest), zero},
		{impl.Vector{}, greatest, zero}, {greatest, impl.Vector{}, zero}, {impl.Vector{}, impl.Vector{}, zero}, {vec(1, 2, 3), vec(3, 2, 1), zero},
		{vec(most, 0, 0), alongY, codedPlace(vec(0, 0, most), impl.OK)}, {vec(most, 0, 0), vec(0, -1000000, 0), codedPlace(vec(0, 0, -most), impl.OK)},
		{vec(most, 0, 0), vec(0, 1000001, 0), none}, {vec(0, most, 0), vec(0, 0, 1000001), none}, {vec(0, 0, most), vec(1000001, 0, 0), none},
		{vec(most, 0, 0), vec(0, -1000001, 0), none}, {vec(0, most, 0), vec(0, 0, -1000001), none}, {vec(0, 0, most), vec(-1000001, 0, 0), none},
		{greatest, vec(most, -most, most), none}, {greatest, vec(-most, -most, most), none}, {vec(most, -most, 0), vec(most, most, 0), none},
		{vec(1, 0, 0), vec(0, 500000, 0), codedPlace(vec(0, 0, 1), impl.OK)}, {vec(1, 0, 0), vec(0, 499999, 0), zero},
		{vec(-1, 0, 0), vec(0, 500000, 0), codedPlace(vec(0, 0, -1), impl.OK)}, {vec(-1, 0, 0), vec(0, 499999, 0), zero},
		{vec(1000, 2000, 3000), vec(4000, 6000, 9000), codedPlace(vec(0, 3, -2), impl.OK)},
	}
	for _, c := range cases {
		checkResult(t, fmt.Sprintf("CrossOf(%v, %v)", c.a, c.b), codedPlace(impl.CrossOf(c.a, c.b)), c.want)
	}
}

// plainCross follows the text of the document; the result may not be valid.
func plainCross(a, b impl.Vector) impl.Vector {
	return vec(
		plainQuotient(a.Y*b.Z-a.Z*b.Y, 1000000),
		plainQuotient(a.Z*b.X-a.X*b.Z, 1000000),
		plainQuotient(a.X*b.Y-a.Y*b.X, 1000000))
}

func plainDot(a, b impl.Vector) int64 { return plainQuotient(a.X*b.X+a.Y*b.Y+a.Z*b.Z, 1000000) }

func plainSeparation(sines []int64, a, b impl.Vector) codedNumber {
	cross, dot := plainCross(a, b), plainDot(a, b)
	length := plainRoot(cross.X*cross.X + cross.Y*cross.Y + cross.Z*cross.Z)
	if length == 0 && dot == 0 {
		return coded(0, impl.ErrState)
	}
	return coded(plainTangent(sines, length, dot), impl.OK)
}

func TestP5ProductsEverywhere(t *testing.T) {
	sines := allSines()
	vectors := manyVectors(15, 30)
	for i, a := range vectors {
		for k := i % 7; k < len(vectors); k += 7 {
			b := vectors[k]
			if got, want := coded(impl.DotOf(a, b)), coded(plainDot(a, b), impl.OK); got != want {
				t.Fatalf("DotOf(%v, %v): got %v, want %v", a, b, got, want)
			}
			if got, want := codedPlace(impl.CrossOf(a, b)), valid(plainCross(a, b)); got != want {
				t.Fatalf("CrossOf(%v, %v): got %v, want %v", a, b, got, want)
			}
			if got, want := coded(impl.Separation(a, b)), plainSeparation(sines, a, b); got != want {
				t.Fatalf("Separation(%v, %v): got %v, want %v", a, b, got, want)
			}
		}
	}
}

func TestP5SeparationCases(t *testing.T) {
	greatest := vec(most, most, most)
	cases := []struct {
		a, b impl.Vector
		want int64
	}{
		{alongX, alongX, 0}, {greatest, greatest, 0}, {vec(3, 4000, 12), vec(3, 4000, 12), 0}, {alongX, vec(most, 0, 0), 0},
		{alongX, opposite(alongX), 180000}, {greatest, opposite(greatest), 180000}, {vec(0, 0, 1000), vec(0, 0, -1000), 180000},
		{alongX, alongY, 90000}, {alongY, alongX, 90000}, {alongZ, alongX, 90000}, {alongY, opposite(alongZ), 90000}, {vec(1000, 0, 0), vec(0, 1000, 0), 90000},
		{vec(most, 0, 0), vec(0, most, 0), 90000}, {vec(0, -most, 0), vec(0, 0, most), 90000}, {vec(most, -most, 0), vec(most, most, 0), 90000},
		{vec(most, 0, 0), vec(most, most, 0), 45000}, {vec(most, 0, 0), vec(-most, most, 0), 135000}, {vec(-most, 0, -most), vec(0, 0, -most), 45000},
		{alongX, vec(866025, 500000, 0), 30000}, {alongX, vec(-866025, 0, 500000), 150000}, {alongX, vec(707107, 0, -707107), 45000},
	}
	for _, c := range cases {
		checkResult(t, fmt.Sprintf("Separation(%v, %v)", c.a, c.b), coded(impl.Separation(c.a, c.b)), coded(c.want, impl.OK))
	}
	// The cross products of the greatest vectors are not valid, and their angles are those of shorter ones.
	checkResult(t, "CrossOf the greatest vectors", codedPlace(impl.CrossOf(vec(most, 0, 0), vec(0, most, 0))), codedPlace(impl.Vector{}, impl.ErrState))
}

func TestP5SeparationRefuses(t *testing.T) {
	none := coded(0, impl.ErrState)
	for _, v := range edgeVectors() {
		checkResult(t, fmt.Sprintf("Separation(%v, 0)", v), coded(impl.Separation(v, impl.Vector{})), none)
		checkResult(t, fmt.Sprintf("Separation(0, %v)", v), coded(impl.Separation(impl.Vector{}, v)), none)
	}
	// Vectors with a length are refused as well, if they are so short that both products are 0.
	for _, pair := range [][2]impl.Vector{
		{vec(1, 0, 0), vec(1, 0, 0)}, {vec(1, 0, 0), vec(-1, 0, 0)}, {vec(1, 0, 0), vec(0, 1, 0)}, {vec(3, 4, 12), vec(12, 4, 3)},
		{vec(1, 0, 0), vec(499999, 0, 0)}, {vec(707, 0, 0), vec(707, 0, 0)}, {vec(0, 707, 0), vec(0, 0, 707)},
	} {
		checkResult(t, fmt.Sprintf("Separation(%v, %v)", pair[0], pair[1]), coded(impl.Separation(pair[0], pair[1])), none)
	}
	checkResult(t, "Separation just long enough", coded(impl.Separation(vec(708, 0, 0), vec(708, 0, 0))), coded(0, impl.OK))
	checkResult(t, "Separation just long enough, opposite", coded(impl.Separation(vec(1, 0, 0), vec(-500000, 0, 0))), coded(180000, impl.OK))
	checkResult(t, "Separation just long enough, across", coded(impl.Separation(vec(1, 0, 0), vec(0, 500000, 0))), coded(90000, impl.OK))
}

func TestP5SeparationIsTheSameInBothOrders(t *testing.T) {
	random := rand.New(rand.NewSource(16))
	for range 3000 {
		a, b := randomVector(random, most), randomVector(random, most)
		there, back := coded(impl.Separation(a, b)), coded(impl.Separation(b, a))
		if there != back || there.code != impl.OK || there.value < 0 || there.value > 180000 {
			t.Errorf("Separation(%v, %v): got %v, and back %v", a, b, there, back)
		}
	}
}

// Promise 5: turns.

func TestP5RotateCases(t *testing.T) {
	v := vec(100, 200, 300)
	cases := []struct {
		v           impl.Vector
		axis, angle int64
		want        impl.Vector
	}{
		{alongX, impl.AxisZ, 90000, alongY}, {alongY, impl.AxisX, 90000, alongZ}, {alongZ, impl.AxisY, 90000, alongX},
		{alongX, impl.AxisZ, -90000, opposite(alongY)}, {alongY, impl.AxisX, -90000, opposite(alongZ)}, {alongZ, impl.AxisY, -90000, opposite(alongX)},
		{alongX, impl.AxisY, 90000, opposite(alongZ)}, {alongY, impl.AxisZ, 90000, opposite(alongX)}, {alongZ, impl.AxisX, 90000, opposite(alongY)},
		{alongX, impl.AxisX, 12345, alongX}, {alongY, impl.AxisY, 12345, alongY}, {alongZ, impl.AxisZ, 12345, alongZ},
		{v, impl.AxisX, 90000, vec(100, -300, 200)}, {v, impl.AxisY, 90000, vec(300, 200, -100)}, {v, impl.AxisZ, 90000, vec(-200, 100, 300)},
		{v, impl.AxisX, 180000, vec(100, -200, -300)}, {v, impl.AxisY, 180000, vec(-100, 200, -300)}, {v, impl.AxisZ, 180000, vec(-100, -200, 300)},
		{v, impl.AxisX, -90000, vec(100, 300, -200)}, {v, impl.AxisY, -90000, vec(-300, 200, 100)}, {v, impl.AxisZ, -90000, vec(200, -100, 300)},
		{v, impl.AxisX, 450000, vec(100, -300, 200)}, {v, impl.AxisY, 450000, vec(300, 200, -100)}, {v, impl.AxisZ, 450000, vec(-200, 100, 300)},
		{v, impl.AxisX, -630000, vec(100, -300, 200)}, {v, impl.AxisY, 3600000000, v}, {v, impl.AxisZ, -3600180000, vec(-100, -200, 300)},
		{alongX, impl.AxisZ, 30000, vec(866025, 500000, 0)}, {alongY, impl.AxisX, 30000, vec(0, 866025, 500000)}, {alongZ, impl.AxisY, 30000, vec(500000, 0, 866025)},
		{alongX, impl.AxisZ, maxInt, vec(561969, 827130, 0)}, {alongX, impl.AxisZ, minInt, vec(561955, -827140, 0)},
		{vec(1, 0, 0), impl.AxisZ, 30000, vec(1, 1, 0)}, {vec(-1, 0, 0), impl.AxisZ, 30000, vec(-1, -1, 0)}, {vec(1, 0, 0), impl.AxisZ, 29999, vec(1, 0, 0)},
		{impl.Vector{}, impl.AxisX, 45000, impl.Vector{}}, {impl.Vector{}, impl.AxisY, -1, impl.Vector{}}, {impl.Vector{}, impl.AxisZ, maxInt, impl.Vector{}},
		{vec(most, most, most), impl.AxisX, 90000, vec(most, -most, most)}, {vec(most, most, most), impl.AxisZ, 180000, vec(-most, -most, most)},
	}
	for _, c := range cases {
		call := fmt.Sprintf("RotateAround(%v, %d, %d)", c.v, c.axis, c.angle)
		checkResult(t, call, codedPlace(impl.RotateAround(c.v, c.axis, c.angle)), codedPlace(c.want, impl.OK))
	}
}

func TestP5RotateByNoAngle(t *testing.T) {
	for _, v := range manyVectors(17, 50) {
		for _, axis := range []int64{impl.AxisX, impl.AxisY, impl.AxisZ} {
			for _, angle := range []int64{0, 360000, -360000, 720000} {
				call := fmt.Sprintf("RotateAround(%v, %d, %d)", v, axis, angle)
				checkResult(t, call, codedPlace(impl.RotateAround(v, axis, angle)), codedPlace(v, impl.OK))
			}
		}
	}
}

func TestP5RotateRefuses(t *testing.T) {
	wrongAxis := codedPlace(impl.Vector{}, impl.ErrRange)
	for _, axis := range []int64{0, 4, -1, -2, -3, 5, 1 << 32, 1<<32 + 1, minInt, minInt + 1, maxInt} {
		for _, v := range []impl.Vector{{}, alongX, vec(most, most, most)} {
			for _, angle := range []int64{0, 45000, -90000, minInt} {
				call := fmt.Sprintf("RotateAround(%v, %d, %d)", v, axis, angle)
				checkResult(t, call, codedPlace(impl.RotateAround(v, axis, angle)), wrongAxis)
			}
		}
	}
	tooLong := codedPlace(impl.Vector{}, impl.ErrState)
	for _, axis := range []int64{impl.AxisX, impl.AxisY, impl.AxisZ} {
		for _, angle := range []int64{1000, 45000, -45000, 30000, 135000, 225000, 405000} {
			call := fmt.Sprintf("RotateAround(the greatest, %d, %d)", axis, angle)
			checkResult(t, call, codedPlace(impl.RotateAround(vec(most, most, most), axis, angle)), tooLong)
		}
	}
	// Just at the end of the range and just beyond it, around each axis.
	for _, c := range []struct {
		v    impl.Vector
		axis int64
		want codedVector
	}{
		{vec(0, 1414213, 1414213), impl.AxisX, codedPlace(vec(0, 0, 2000000), impl.OK)}, {vec(0, 1414214, 1414214), impl.AxisX, tooLong},
		{vec(1414213, 0, 1414213), impl.AxisY, codedPlace(vec(2000000, 0, 0), impl.OK)}, {vec(1414214, 0, 1414214), impl.AxisY, tooLong},
		{vec(1414213, 1414213, 0), impl.AxisZ, codedPlace(vec(0, 2000000, 0), impl.OK)}, {vec(1414214, 1414214, 0), impl.AxisZ, tooLong},
	} {
		checkResult(t, fmt.Sprintf("RotateAround(%v, %d, 45000)", c.v, c.axis), codedPlace(impl.RotateAround(c.v, c.axis, 45000)), c.want)
	}
}

// plainRotate follows the text of the document for one of the three axes.
func plainRotate(sines []int64, v impl.Vector, axis, angle int64) codedVector {
	sine, cosine := sines[plainForwards(0, angle)], sines[plainForwards(-90000, angle)]
	divided := func(n int64) int64 { return plainQuotient(n, 1000000) }
	switch axis {
	case 1:
		return valid(vec(v.X, divided(v.Y*cosine-v.Z*sine), divided(v.Y*sine+v.Z*cosine)))
	case 2:
		return valid(vec(divided(v.X*cosine+v.Z*sine), v.Y, divided(v.Z*cosine-v.X*sine)))
	}
	return valid(vec(divided(v.X*cosine-v.Y*sine), divided(v.X*sine+v.Y*cosine), v.Z))
}

func TestP5TurnsEverywhere(t *testing.T) {
	sines := allSines()
	random := rand.New(rand.NewSource(18))
	for _, v := range manyVectors(19, 100) {
		for axis := int64(1); axis <= 3; axis++ {
			for _, angle := range append(edgeAngles(), random.Int63n(720000)-360000, random.Int63()-random.Int63()) {
				got, want := codedPlace(impl.RotateAround(v, axis, angle)), plainRotate(sines, v, axis, angle)
				if got != want {
					t.Fatalf("RotateAround(%v, %d, %d): got %v, want %v", v, axis, angle, got, want)
				}
			}
		}
	}
}

// checkUndone turns a vector there and back, and checks that no component is off by more than mostOff.
func checkUndone(t *testing.T, v impl.Vector, axis, angle, mostOff int64) {
	t.Helper()
	there, code := impl.RotateAround(v, axis, angle)
	back, backCode := impl.RotateAround(there, axis, -angle)
	if code != impl.OK || backCode != impl.OK || farthest(v, back) > mostOff {
		t.Errorf("RotateAround(%v, %d, %d): to %v, %d, and back to %v, %d", v, axis, angle, there, code, back, backCode)
	}
}

func TestP5TurnsAreUndone(t *testing.T) {
	random := rand.New(rand.NewSource(20))
	for range 5000 {
		v, code := impl.NormalVector(randomVector(random, 1000000))
		checkResult(t, "the code of NormalVector", code, int64(impl.OK))
		for axis := int64(1); axis <= 3; axis++ {
			checkUndone(t, v, axis, 90000*(random.Int63n(17)-8), 0)
			checkUndone(t, v, axis, 1000*(random.Int63n(1441)-720), 2)
			// Sines between whole degrees are less than they should be, so that a turn makes a vector shorter.
			checkUndone(t, v, axis, random.Int63n(1440001)-720000, 80)
		}
	}
}

// Promise 5: vectors of the length 1.

func TestP5NormalCases(t *testing.T) {
	cases := []struct{ v, want impl.Vector }{
		{vec(1, 0, 0), alongX}, {vec(-1, 0, 0), opposite(alongX)}, {vec(0, 1, 0), alongY}, {vec(0, -1, 0), opposite(alongY)},
		{vec(0, 0, 1), alongZ}, {vec(0, 0, -7), opposite(alongZ)}, {vec(most, 0, 0), alongX}, {vec(0, -most, 0), opposite(alongY)}, {alongZ, alongZ},
		// The lengths of the shortest vectors are rounded down to 1.
		{vec(1, 1, 0), vec(1000000, 1000000, 0)}, {vec(1, 1, 1), vec(1000000, 1000000, 1000000)}, {vec(-1, 1, -1), vec(-1000000, 1000000, -1000000)},
		{vec(1, 1, 2), vec(500000, 500000, 1000000)}, {vec(3, 4, 12), vec(230769, 307692, 923077)}, {vec(-3, 4, -12), vec(-230769, 307692, -923077)},
		{vec(2, 2, 2), vec(666667, 666667, 666667)}, {vec(-2, 2, -2), vec(-666667, 666667, -666667)},
		{vec(most, most, most), vec(577350, 577350, 577350)}, {vec(-most, most, 0), vec(-707107, 707107, 0)}, {vec(300000, 400000, 0), vec(600000, 800000, 0)},
	}
	for _, c := range cases {
		checkResult(t, fmt.Sprintf("NormalVector(%v)", c.v), codedPlace(impl.NormalVector(c.v)), codedPlace(c.want, impl.OK))
	}
	none := codedPlace(impl.Vector{}, impl.ErrState)
	checkResult(t, "NormalVector of the vector without a length", codedPlace(impl.NormalVector(impl.Vector{})), none)
}

// plainNormal follows the text of the document for a valid vector.
func plainNormal(v impl.Vector) codedVector {
	length := plainRoot(v.X*v.X + v.Y*v.Y + v.Z*v.Z)
	if length == 0 {
		return codedPlace(impl.Vector{}, impl.ErrState)
	}
	divided := func(n int64) int64 { return plainQuotient(n*1000000, length) }
	return valid(vec(divided(v.X), divided(v.Y), divided(v.Z)))
}

func TestP5NormalEverywhere(t *testing.T) {
	for _, v := range manyVectors(21, 1000) {
		checkResult(t, fmt.Sprintf("NormalVector(%v)", v), codedPlace(impl.NormalVector(v)), plainNormal(v))
	}
}

func TestP5BlendVectorCases(t *testing.T) {
	none := codedPlace(impl.Vector{}, impl.ErrState)
	greatest := vec(most, most, most)
	cases := []struct {
		a, b  impl.Vector
		share int64
		want  codedVector
	}{
		{alongX, alongY, 0, codedPlace(alongX, impl.OK)}, {alongX, alongY, 1000, codedPlace(alongY, impl.OK)},
		{alongX, alongY, 500, codedPlace(vec(707108, 707108, 0), impl.OK)}, {alongX, alongZ, 250, codedPlace(vec(948684, 0, 316228), impl.OK)},
		{alongX, alongY, 1, codedPlace(vec(1000000, 1001, 0), impl.OK)}, {alongX, alongY, 999, codedPlace(vec(1001, 1000000, 0), impl.OK)},
		{alongX, opposite(alongX), 500, none}, {alongX, opposite(alongX), 499, codedPlace(alongX, impl.OK)}, {alongX, opposite(alongX), 501, codedPlace(opposite(alongX), impl.OK)},
		{greatest, opposite(greatest), 500, none}, {greatest, opposite(greatest), 0, codedPlace(vec(577350, 577350, 577350), impl.OK)},
		{greatest, opposite(greatest), 501, codedPlace(vec(-577367, -577367, -577367), impl.OK)}, {vec(1000001, 0, -3), vec(-1000001, 0, 3), 500, none},
		// The greatest components are beyond the limits of Blend.
		{vec(most, 0, 0), vec(0, most, 0), 500, codedPlace(vec(707107, 707107, 0), impl.OK)}, {vec(most, 0, 0), vec(0, 0, -most), 0, codedPlace(alongX, impl.OK)},
		{vec(most, 0, 0), vec(0, 0, -most), 1000, codedPlace(opposite(alongZ), impl.OK)}, {vec(0, 1000001, 0), vec(0, 0, 1000001), 500, codedPlace(vec(0, 707107, 707108), impl.OK)},
		{impl.Vector{}, impl.Vector{}, 0, none}, {impl.Vector{}, impl.Vector{}, 500, none}, {impl.Vector{}, impl.Vector{}, 1000, none},
		{impl.Vector{}, alongX, 0, none}, {impl.Vector{}, alongX, 1, codedPlace(alongX, impl.OK)}, {impl.Vector{}, alongX, 1000, codedPlace(alongX, impl.OK)},
		{alongY, impl.Vector{}, 1000, none}, {alongY, impl.Vector{}, 999, codedPlace(alongY, impl.OK)}, {alongY, impl.Vector{}, 0, codedPlace(alongY, impl.OK)},
		// Halves are rounded away from 0, as seen from the first vector.
		{vec(1, 0, 0), vec(0, 1, 0), 500, codedPlace(alongY, impl.OK)}, {vec(1, 0, 0), impl.Vector{}, 499, codedPlace(alongX, impl.OK)},
		{vec(1, 0, 0), impl.Vector{}, 500, none}, {impl.Vector{}, vec(1, 0, 0), 500, codedPlace(alongX, impl.OK)}, {impl.Vector{}, vec(1, 0, 0), 499, none},
		{vec(7, 8, 9), vec(7, 8, 9), 321, codedPlace(vec(538462, 615385, 692308), impl.OK)},
	}
	for _, c := range cases {
		checkResult(t, fmt.Sprintf("BlendVectors(%v, %v, %d)", c.a, c.b, c.share), codedPlace(impl.BlendVectors(c.a, c.b, c.share)), c.want)
	}
}

func TestP5BlendVectorsRefuses(t *testing.T) {
	vectors := []impl.Vector{{}, alongX, opposite(alongX), vec(most, most, most)}
	for _, share := range []int64{-1, 1001, -1000, 2000, minInt, maxInt} {
		for _, a := range vectors {
			for _, b := range vectors {
				call := fmt.Sprintf("BlendVectors(%v, %v, %d)", a, b, share)
				checkResult(t, call, codedPlace(impl.BlendVectors(a, b, share)), codedPlace(impl.Vector{}, impl.ErrRange))
			}
		}
	}
}

func TestP5BlendVectorsEverywhere(t *testing.T) {
	vectors, random := manyVectors(22, 30), rand.New(rand.NewSource(23))
	for i, a := range vectors {
		for k := i % 5; k < len(vectors); k += 5 {
			b := vectors[k]
			for _, share := range []int64{0, 1, 500, 999, 1000, random.Int63n(1001)} {
				part := func(from, to int64) int64 { return from + plainQuotient((to-from)*share, 1000) }
				want := plainNormal(vec(part(a.X, b.X), part(a.Y, b.Y), part(a.Z, b.Z)))
				if got := codedPlace(impl.BlendVectors(a, b, share)); got != want {
					t.Fatalf("BlendVectors(%v, %v, %d): got %v, want %v", a, b, share, got, want)
				}
			}
		}
	}
}

// Promise 5: texts.

var vectorTexts = textForm[impl.Vector]{"Vector", impl.VectorText, impl.ReadVector}

func TestP5VectorIsReadBack(t *testing.T) {
	cases := []struct {
		v    impl.Vector
		text string
	}{
		{vec(0, 0, 0), "0,0,0"}, {vec(1, -2, 3), "1,-2,3"}, {vec(0, 0, 5), "0,0,5"}, {vec(-1, -1, -1), "-1,-1,-1"}, {alongY, "0,1000000,0"},
		{vec(most, most, most), "2000000,2000000,2000000"}, {vec(-most, -most, -most), "-2000000,-2000000,-2000000"}, {vec(-most, 0, most), "-2000000,0,2000000"},
	}
	for _, c := range cases {
		vectorTexts.checkReadBack(t, c.v, c.text)
	}
	for _, v := range manyVectors(24, 500) {
		vectorTexts.checkReadBack(t, v, fmt.Sprintf("%d,%d,%d", v.X, v.Y, v.Z))
	}
}

func TestP5VectorTextRefuses(t *testing.T) {
	for _, n := range []int64{-2000001, 2000001} {
		vectorTexts.checkNoTexts(t, []impl.Vector{vec(n, 0, 0), vec(0, n, 0), vec(0, 0, n), vec(n, n, n)})
	}
}

func TestP5ReadVectorRefuses(t *testing.T) {
	texts := []string{
		"2000001,0,0", "0,2000001,0", "0,0,2000001", "-2000001,0,0", "0,-2000001,0", "0,0,-2000001", "1000000000000,0,0", "1000000000001,0,0", "0,0,-1000000000000",
		"1", "1,2", "1,2,3,4", "1,2,3,", ",1,2,3", "1,,3", ",,", "1,2,", ",2,3", "0,0,0,0", "1,2,3,-",
		"1, 2,3", " 1,2,3", "1,2,3 ", "1,2,3\n", "1 2 3", "1;2;3", "1.2.3", "(1,2,3)", "1,2,3.0", "1\t,2,3",
		"+1,2,3", "1,+2,3", "01,2,3", "1,02,3", "1,2,03", "-0,0,0", "0,-0,0", "0,0,-0", "00,0,0", "--1,2,3", "1-,2,3", "1,-,3", "-,-,-",
		"a,b,c", "1,2,c", "1e3,0,0", "0x1,2,3", "1_0,2,3", "9223372036854775808,0,0", "-9223372036854775808,0,0", "18446744073709551617,0,0",
		"1,2,3\x00", "\xff,2,3", "\u0661,2,3", strings.Repeat("0", 100) + ",0,0", strings.Repeat("1", 1000) + ",2,3",
	}
	vectorTexts.checkNotRead(t, append(texts, edgeTexts()...))
}

func TestP5ReadVectorRefusesChangedBytes(t *testing.T) {
	vectorTexts.checkChanged(t, "-1234567,89,2000000")
}
