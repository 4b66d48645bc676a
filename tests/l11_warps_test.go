package tests

import (
	"fmt"
	"math/rand"
	"slices"
	"strings"
	"testing"

	"loop.example/g00955/impl"
)

// codedMesh is a mesh with its code.
type codedMesh struct {
	mesh impl.Mesh
	code int64
}

// codedGrid returns a mesh with its code; points that are not nil but empty count as nil.
func codedGrid(m impl.Mesh, code int64) codedMesh {
	if len(m.Points) == 0 {
		m.Points = nil
	}
	return codedMesh{m, code}
}

// codedPoint is a result of UnwarpPoint.
type codedPoint struct{ u, v, distance, code int64 }

func warp(m impl.Mesh, u, v int64) codedSpot {
	p, code := impl.WarpPoint(m, u, v)
	return codedSpot{p, code}
}

func unwarp(m impl.Mesh, p impl.Spot) codedPoint {
	u, v, distance, code := impl.UnwarpPoint(m, p)
	return codedPoint{u, v, distance, code}
}

func spot(x, y int64) impl.Spot { return impl.Spot{X: x, Y: y} }

func mesh(columns, rows int64, points ...impl.Spot) impl.Mesh {
	return impl.Mesh{Columns: columns, Rows: rows, Points: points}
}

// flatMesh returns a mesh of two rows of two points with these X and the Y 0.
func flatMesh(p, q, r, s int64) impl.Mesh {
	return mesh(2, 2, spot(p, 0), spot(q, 0), spot(r, 0), spot(s, 0))
}

// steadyMesh returns a mesh all of whose points are equal.
func steadyMesh(columns, rows int64, p impl.Spot) impl.Mesh {
	return mesh(columns, rows, slices.Repeat([]impl.Spot{p}, int(columns*rows))...)
}

// evenMesh follows the text of the document.
func evenMesh(columns, rows int64) impl.Mesh {
	points := []impl.Spot{}
	for row := range rows {
		for column := range columns {
			points = append(points, spot(plainQuotient(2000000*column, columns-1)-1000000, plainQuotient(2000000*row, rows-1)-1000000))
		}
	}
	return mesh(columns, rows, points...)
}

// withPoint returns a mesh with another point in a column and a row.
func withPoint(m impl.Mesh, column, row int64, p impl.Spot) impl.Mesh {
	points := slices.Clone(m.Points)
	points[row*m.Columns+column] = p
	return mesh(m.Columns, m.Rows, points...)
}

// mirrored returns a mesh with the opposite X of all points.
func mirrored(m impl.Mesh) impl.Mesh {
	points := []impl.Spot{}
	for _, p := range m.Points {
		points = append(points, spot(-p.X, p.Y))
	}
	return mesh(m.Columns, m.Rows, points...)
}

func randomSize(random *rand.Rand) int64 { return 2 + random.Int63n(8) }

func randomCoordinate(random *rand.Rand, most int64) int64 { return random.Int63n(2*most+1) - most }

// bentMesh returns a plain mesh whose points are moved a little.
func bentMesh(random *rand.Rand, columns, rows int64) impl.Mesh {
	m := evenMesh(columns, rows)
	for i, p := range m.Points {
		m.Points[i] = spot(p.X+randomCoordinate(random, 100000), p.Y+randomCoordinate(random, 100000))
	}
	return m
}

// wildMesh returns a mesh with points anywhere, or just next to one another, or at the ends of the plane.
func wildMesh(random *rand.Rand, columns, rows int64) impl.Mesh {
	m, most := steadyMesh(columns, rows, impl.Spot{}), []int64{2000000, 2000000, 3, 1}[random.Intn(4)]
	for i := range m.Points {
		m.Points[i] = spot(randomCoordinate(random, most), randomCoordinate(random, most))
		if random.Intn(4) == 0 {
			m.Points[i].X = []int64{-2000000, 2000000, 0}[random.Intn(3)]
		}
	}
	return m
}

func randomMesh(random *rand.Rand, columns, rows int64) impl.Mesh {
	if random.Intn(2) == 0 {
		return bentMesh(random, columns, rows)
	}
	return wildMesh(random, columns, rows)
}

// validMeshes have sizes at both ends and between them, and points everywhere on the plane.
func validMeshes() []impl.Mesh {
	list := []impl.Mesh{
		steadyMesh(2, 2, impl.Spot{}), steadyMesh(9, 9, spot(2000000, -2000000)), steadyMesh(3, 2, spot(-7, 7)), flatMesh(0, 1, 0, 1), flatMesh(-2000000, 2000000, -2000000, 2000000), flatMesh(2000000, -2000000, -2000000, 2000000), mirrored(evenMesh(4, 3)),
		mesh(2, 2, spot(-2000000, -2000000), spot(2000000, -2000000), spot(-2000000, 2000000), spot(2000000, 2000000)), mesh(2, 2, spot(2000000, 2000000), spot(-2000000, 2000000), spot(2000000, -2000000), spot(-2000000, -2000000)),
	}
	for _, size := range [][2]int64{{2, 2}, {9, 9}, {2, 9}, {9, 2}, {3, 5}, {5, 5}, {6, 3}, {3, 6}, {8, 7}, {4, 4}, {2, 8}} {
		list = append(list, evenMesh(size[0], size[1]))
	}
	random := rand.New(rand.NewSource(100))
	for range 20 {
		list = append(list, randomMesh(random, randomSize(random), randomSize(random)))
	}
	return list
}

// beyondPlane are numbers that are no coordinates.
func beyondPlane() []int64 {
	return []int64{2000001, -2000001, 3000000, -3000000, 1 << 32, -1 << 32, 1 << 62, minInt, minInt + 1, maxInt}
}

// noMeshSizes are numbers that are not from MinMesh to MaxMesh.
func noMeshSizes() []int64 {
	return []int64{1, 10, 0, -1, -2, -9, 11, 1 << 32, -1 << 32, 1<<32 + 2, 1 << 62, minInt, minInt + 2, maxInt}
}

// invalidMeshes have a size or a point that no mesh has, or another number of points.
func invalidMeshes() []impl.Mesh {
	points := evenMesh(9, 9).Points
	few := func(columns, rows int64, count int) impl.Mesh { return mesh(columns, rows, points[:count]...) }
	list := []impl.Mesh{
		{}, few(2, 2, 0), few(2, 2, 1), few(2, 2, 3), few(2, 2, 5), few(2, 3, 5), few(3, 2, 7), few(3, 3, 8), few(9, 9, 80), few(9, 9, 0), mesh(9, 9, append(slices.Clone(points), spot(0, 0))...), few(5, 5, 24), few(5, 5, 26), few(5, 5, 81),
		few(1, 1, 1), few(1, 2, 2), few(2, 1, 2), few(1, 4, 4), few(4, 1, 4), few(0, 4, 0), few(4, 0, 0), few(0, 0, 0), few(10, 2, 20), few(2, 10, 20), few(10, 8, 80), few(-2, -2, 4), few(-9, -9, 81), few(-3, 2, 6), few(2, -2, 4),
		// The products of these sizes are the number of points in 64 bits.
		few(1<<32, 1<<32, 0), few(1<<62, 4, 0), few(4, 1<<62, 0), few(minInt, 2, 0), few(2, minInt+2, 4), few(minInt+2, 2, 4), few(minInt+3, 3, 0), few(maxInt, -4, 4), few(1<<62+1, 4, 4),
	}
	for _, n := range noMeshSizes() {
		list = append(list, few(n, 2, 4), few(2, n, 4), few(n, n, 4), few(n, n, 0))
	}
	for _, n := range beyondPlane() {
		for _, p := range []impl.Spot{spot(n, 0), spot(0, n), spot(n, n), spot(-2000000, n)} {
			list = append(list, withPoint(evenMesh(2, 2), 0, 0, p), withPoint(evenMesh(2, 2), 1, 1, p), withPoint(evenMesh(9, 9), 8, 8, p), withPoint(evenMesh(3, 5), 1, 2, p), steadyMesh(2, 3, p))
		}
	}
	return list
}

// meshCalls are those of all functions of one mesh that return a code.
func meshCalls(m impl.Mesh, n, o int64, p impl.Spot) []horizonCall {
	arguments := fmt.Sprintf("(%.300q, %d, %d, %v)", fmt.Sprint(m), n, o, p)
	return append(gridCalls(m),
		horizonCall{"WarpPoint" + arguments, warp(m, n, o)},
		horizonCall{"UnwarpPoint" + arguments, unwarp(m, p)},
		horizonCall{"MoveMeshPoint" + arguments, codedGrid(impl.MoveMeshPoint(m, n, o, p))})
}

// gridCalls are those of the functions of a mesh alone.
func gridCalls(m impl.Mesh) []horizonCall {
	arguments := fmt.Sprintf("(%.300q)", fmt.Sprint(m))
	return []horizonCall{
		{"FoldedCells" + arguments, codedMany(impl.FoldedCells(m))},
		{"MirrorMesh" + arguments, codedGrid(impl.MirrorMesh(m))},
		{"RefineMesh" + arguments, codedGrid(impl.RefineMesh(m))},
	}
}

// bothCalls are those of the functions of two meshes.
func bothCalls(a, b impl.Mesh, share int64) []horizonCall {
	arguments := fmt.Sprintf("(%.300q, %.300q, %d)", fmt.Sprint(a), fmt.Sprint(b), share)
	return []horizonCall{
		{"BlendMeshes" + arguments, codedGrid(impl.BlendMeshes(a, b, share))},
		{"GreatestMove" + arguments, coded(impl.GreatestMove(a, b))},
	}
}

// Promise 1, for the functions of chapter 11.

func TestP1MeshesReturnEqualResults(t *testing.T) {
	numbers := slices.Concat(edgeNumbers(), noMeshSizes(), []int64{4, 8, 9, 500, 1000, 1001, 499999, 999999, 2000000, 2000001, -2000000, -2000001})
	meshes := append(validMeshes(), invalidMeshes()...)
	for i, m := range meshes {
		for k := range 6 {
			n, o, p := numbers[(5*i+11*k)%len(numbers)], numbers[(3*i+7*k)%len(numbers)], numbers[(i+13*k)%len(numbers)]
			checkRepeats(t, fmt.Sprintf("functions of the mesh %v and the numbers %d, %d, %d", m, n, o, p), func() []any {
				other, changed := meshes[(7*i+k)%len(meshes)], mesh(n, o, m.Points...)
				calls := slices.Concat(meshCalls(m, n, o, spot(o, p)), meshCalls(m, 0, p, spot(n, 0)), meshCalls(m, p, 0, spot(0, o)), bothCalls(m, other, n), bothCalls(other, m, 500), bothCalls(m, m, o), gridCalls(changed))
				return append(resultsOf(calls...), codedGrid(impl.PlainMesh(n, o)), codedGrid(impl.PlainMesh(2, p)), impl.ValidMesh(changed), impl.MeshText(changed), impl.SameMesh(m, other), impl.SameMesh(changed, m), impl.ValidMesh(m), impl.MeshText(m))
			})
		}
	}
	for _, s := range edgeTexts() {
		for _, text := range []string{s, "2x2 " + s, s + " 0,0 0,0 0,0 0,0", "2x2 0,0 0,0 0,0 " + s, s + "x" + s + " " + s + "," + s} {
			checkRepeats(t, fmt.Sprintf("ReadMesh(%.60q)", text), func() []any {
				m, ok := impl.ReadMesh(text)
				return []any{m, ok}
			})
		}
	}
}

func TestP1MeshesKeepTheirArguments(t *testing.T) {
	meshes := append(validMeshes(), invalidMeshes()...)
	rest := append(slices.Repeat([]impl.Spot{spot(7, -7)}, 90), spot(minInt, maxInt))
	for i, m := range meshes {
		other := meshes[(i+1)%len(meshes)]
		call := fmt.Sprintf("functions of the mesh %v", m)
		checkListKept(t, call, m.Points, rest, func(points []impl.Spot) {
			checkListKept(t, call, other.Points, rest, func(others []impl.Spot) {
				roomy, behind := mesh(m.Columns, m.Rows, points...), mesh(other.Columns, other.Rows, others...)
				meshCalls(roomy, 1, 1, spot(123456, -654321))
				meshCalls(roomy, -1, 1000001, spot(2000001, 0))
				for _, share := range []int64{0, 1, 500, 1000, 1001} {
					bothCalls(roomy, behind, share)
					bothCalls(behind, roomy, share)
					bothCalls(roomy, roomy, share)
				}
				impl.ValidMesh(roomy)
				impl.SameMesh(roomy, behind)
				impl.MeshText(roomy)
			})
		})
	}
}

// meshMakers are the functions that make a mesh of one or two of this size.
func meshMakers() []func(a, b impl.Mesh) (impl.Mesh, int64) {
	return []func(a, b impl.Mesh) (impl.Mesh, int64){
		func(a, _ impl.Mesh) (impl.Mesh, int64) { return impl.PlainMesh(a.Columns, a.Rows) },
		func(a, b impl.Mesh) (impl.Mesh, int64) { return impl.BlendMeshes(a, b, 0) },
		func(a, b impl.Mesh) (impl.Mesh, int64) { return impl.BlendMeshes(a, b, 1000) },
		func(a, b impl.Mesh) (impl.Mesh, int64) { return impl.BlendMeshes(a, b, 321) },
		func(a, _ impl.Mesh) (impl.Mesh, int64) { return impl.BlendMeshes(a, a, 500) },
		func(a, _ impl.Mesh) (impl.Mesh, int64) { return impl.MirrorMesh(a) },
		func(a, _ impl.Mesh) (impl.Mesh, int64) { return impl.RefineMesh(a) },
		func(a, _ impl.Mesh) (impl.Mesh, int64) { return impl.MoveMeshPoint(a, 1, 0, spot(5, 6)) },
		func(a, _ impl.Mesh) (impl.Mesh, int64) { return impl.MoveMeshPoint(a, 0, 0, a.Points[0]) },
	}
}

func TestP1MeshesHaveMemoryOfTheirOwn(t *testing.T) {
	for _, m := range validMeshes() {
		for i, maker := range meshMakers() {
			even := evenMesh(m.Columns, m.Rows)
			if _, code := maker(m, even); code == impl.ErrFull && max(m.Columns, m.Rows) > 5 {
				continue
			}
			checkMadeOf(t, fmt.Sprintf("the function %d of %v", i, m), spot(9999, -9999), [][]impl.Spot{m.Points, even.Points}, func(points [][]impl.Spot) []impl.Spot {
				made, code := maker(mesh(m.Columns, m.Rows, points[0]...), mesh(m.Columns, m.Rows, points[1]...))
				return withoutCode(t, made.Points, code)
			})
		}
	}
	for _, m := range []impl.Mesh{mirrored(evenMesh(5, 4)), steadyMesh(9, 9, spot(1, 1)), flatMesh(1, 2, 3, 4)} {
		before := slices.Clone(m.Points)
		checkNewNumbers(t, "FoldedCells", func() []int64 {
			cells, code := impl.FoldedCells(m)
			return withoutCode(t, cells, code)
		}, func() bool { return slices.Equal(m.Points, before) })
	}
	checkNewList(t, "ReadMesh", spot(9999, -9999), func() []impl.Spot {
		m, _ := impl.ReadMesh("2x2 1,2 3,4 5,6 7,8")
		return m.Points
	}, func() bool { return true })
}

// Promise 12: valid meshes.

func TestP12WarpConstants(t *testing.T) {
	checkResult(t, "constants", []int64{impl.MinMesh, impl.MaxMesh, impl.MaxPlane}, []int64{2, 9, 2000000})
}

func TestP12ValidMesh(t *testing.T) {
	meshes := validMeshes()
	for columns := int64(2); columns <= 9; columns++ {
		for rows := int64(2); rows <= 9; rows++ {
			meshes = append(meshes, evenMesh(columns, rows))
		}
	}
	for _, n := range []int64{-2000000, -1999999, -1, 0, 1, 1999999, 2000000} {
		meshes = append(meshes, withPoint(evenMesh(2, 2), 0, 0, spot(n, 0)), withPoint(evenMesh(3, 3), 2, 2, spot(0, n)), steadyMesh(9, 9, spot(n, -n)))
	}
	for _, m := range meshes {
		checkResult(t, fmt.Sprintf("ValidMesh(%v)", m), impl.ValidMesh(m), true)
	}
	for _, m := range invalidMeshes() {
		checkResult(t, fmt.Sprintf("ValidMesh(%v)", m), impl.ValidMesh(m), false)
	}
	for columns := int64(-1); columns <= 12; columns++ {
		for rows := int64(-1); rows <= 12; rows++ {
			for count := range int64(150) {
				want := min(columns, rows) >= 2 && max(columns, rows) <= 9 && count == columns*rows
				checkResult(t, fmt.Sprintf("ValidMesh of %d, %d and %d points", columns, rows, count), impl.ValidMesh(mesh(columns, rows, make([]impl.Spot, count)...)), want)
			}
		}
	}
}

func TestP12InvalidMeshesAreRefusedFirst(t *testing.T) {
	for _, m := range invalidMeshes() {
		for _, n := range []int64{0, 1, -1, 1000000, 1000001, 9, 10, minInt, maxInt} {
			checkRefused(t, meshCalls(m, n, 0, spot(0, 0)), impl.ErrInvalid)
			checkRefused(t, meshCalls(m, 0, n, spot(n, 2000001)), impl.ErrInvalid)
			// Other sizes and shares come after it.
			for _, other := range []impl.Mesh{evenMesh(2, 2), evenMesh(9, 9), m, {}} {
				checkRefused(t, bothCalls(m, other, n), impl.ErrInvalid)
				checkRefused(t, bothCalls(other, m, n), impl.ErrInvalid)
			}
		}
	}
}

func checkSameMesh(t *testing.T, a, b impl.Mesh, want bool) {
	t.Helper()
	checkResult(t, fmt.Sprintf("SameMesh(%v, %v)", a, b), impl.SameMesh(a, b), want)
	checkResult(t, fmt.Sprintf("SameMesh(%v, %v)", b, a), impl.SameMesh(b, a), want)
}

func TestP12SameMesh(t *testing.T) {
	checkSameMesh(t, impl.Mesh{}, mesh(0, 0, []impl.Spot{}...), true)
	checkSameMesh(t, impl.Mesh{Columns: 5}, impl.Mesh{Columns: 5, Points: []impl.Spot{}}, true)
	for _, m := range append(validMeshes(), invalidMeshes()...) {
		points := slices.Clone(m.Points)
		checkSameMesh(t, m, mesh(m.Columns, m.Rows, points...), true)
		checkSameMesh(t, m, mesh(m.Columns+1, m.Rows, points...), false)
		checkSameMesh(t, m, mesh(m.Columns, m.Rows+1, points...), false)
		checkSameMesh(t, m, mesh(m.Columns, m.Rows, append(slices.Clone(points), spot(0, 0))...), false)
		checkSameMesh(t, m, mesh(m.Rows, m.Columns, points...), m.Columns == m.Rows)
		if len(points) == 0 {
			continue
		}
		checkSameMesh(t, m, mesh(m.Columns, m.Rows), false)
		checkSameMesh(t, m, mesh(m.Columns, m.Rows, points[1:]...), false)
		checkSameMesh(t, m, mesh(m.Columns, m.Rows, points[:len(points)-1]...), false)
		for _, i := range []int{0, len(points) / 2, len(points) - 1} {
			for _, d := range []impl.Spot{spot(1, 0), spot(0, 1), spot(-1, 1)} {
				changed := slices.Clone(points)
				changed[i] = spot(changed[i].X+d.X, changed[i].Y+d.Y)
				checkSameMesh(t, m, mesh(m.Columns, m.Rows, changed...), false)
			}
		}
	}
	checkSameMesh(t, flatMesh(1, 2, 3, 4), flatMesh(1, 2, 4, 3), false)
	checkSameMesh(t, mesh(2, 8, make([]impl.Spot, 16)...), mesh(4, 4, make([]impl.Spot, 16)...), false)
}

// Promise 12: plain meshes.

func TestP12PlainMeshCases(t *testing.T) {
	two := mesh(2, 2, spot(-1000000, -1000000), spot(1000000, -1000000), spot(-1000000, 1000000), spot(1000000, 1000000))
	checkResult(t, "PlainMesh(2, 2)", codedGrid(impl.PlainMesh(2, 2)), codedGrid(two, impl.OK))
	// The X of the columns, and the Y of the rows, of all sizes; the quotients of 4, 7 and 8 have a rest.
	places := map[int64][]int64{
		2: {-1000000, 1000000}, 3: {-1000000, 0, 1000000}, 4: {-1000000, -333333, 333333, 1000000}, 5: {-1000000, -500000, 0, 500000, 1000000}, 6: {-1000000, -600000, -200000, 200000, 600000, 1000000},
		7: {-1000000, -666667, -333333, 0, 333333, 666667, 1000000}, 8: {-1000000, -714286, -428571, -142857, 142857, 428571, 714286, 1000000}, 9: {-1000000, -750000, -500000, -250000, 0, 250000, 500000, 750000, 1000000},
	}
	for columns, xs := range places {
		for rows, ys := range places {
			want := mesh(columns, rows)
			for _, y := range ys {
				for _, x := range xs {
					want.Points = append(want.Points, spot(x, y))
				}
			}
			checkResult(t, fmt.Sprintf("PlainMesh(%d, %d)", columns, rows), codedGrid(impl.PlainMesh(columns, rows)), codedGrid(want, impl.OK))
			checkResult(t, fmt.Sprintf("the plain mesh of %d by %d", columns, rows), evenMesh(columns, rows), want)
		}
	}
}

func TestP12PlainMeshRefuses(t *testing.T) {
	for _, n := range append(noMeshSizes(), edgeNumbers()...) {
		if n >= 2 && n <= 9 {
			continue
		}
		for _, size := range [][2]int64{{n, 2}, {2, n}, {n, 9}, {9, n}, {n, n}, {n, 1}, {10, n}} {
			checkResult(t, fmt.Sprintf("PlainMesh(%v)", size), codedGrid(impl.PlainMesh(size[0], size[1])), codedGrid(impl.Mesh{}, impl.ErrRange))
		}
	}
}

// Promise 12: warps.

func TestP12WarpCases(t *testing.T) {
	bump := withPoint(evenMesh(3, 3), 1, 1, spot(100, 200))
	skew := withPoint(evenMesh(2, 2), 1, 1, spot(2000000, 2000000))
	cases := []struct {
		m          impl.Mesh
		u, v, x, y int64
	}{
		// The corners.
		{skew, 0, 0, -1000000, -1000000}, {skew, 1000000, 0, 1000000, -1000000}, {skew, 0, 1000000, -1000000, 1000000}, {skew, 1000000, 1000000, 2000000, 2000000}, {evenMesh(9, 9), 1000000, 0, 1000000, -1000000}, {evenMesh(9, 4), 1000000, 1000000, 1000000, 1000000}, {evenMesh(4, 9), 0, 1000000, -1000000, 1000000},
		{skew, 500000, 500000, 250000, 250000}, {skew, 500000, 0, 0, -1000000}, {skew, 0, 500000, -1000000, 0}, {skew, 1000000, 500000, 1500000, 500000}, {skew, 500000, 1000000, 500000, 1500000},
		// Points of the grid, and those exactly between them.
		{bump, 500000, 500000, 100, 200}, {bump, 250000, 500000, -499950, 100}, {bump, 500000, 750000, 50, 500100}, {bump, 250000, 250000, -499975, -499950}, {bump, 750000, 750000, 500025, 500050}, {bump, 500000, 0, 0, -1000000}, {bump, 0, 500000, -1000000, 0}, {bump, 1000000, 500000, 1000000, 0}, {bump, 500000, 1000000, 0, 1000000}, {bump, 750000, 0, 500000, -1000000},
		{bump, 499999, 500000, 98, 200}, {bump, 500001, 500000, 102, 200}, {bump, 500000, 499999, 100, 198}, {bump, 500000, 500001, 100, 202},
		// The third of a million is not whole.
		{evenMesh(4, 2), 333333, 0, -333334, -1000000}, {evenMesh(4, 2), 333334, 0, -333332, -1000000}, {evenMesh(4, 2), 666666, 0, 333332, -1000000}, {evenMesh(4, 2), 666667, 0, 333334, -1000000}, {evenMesh(2, 4), 0, 333333, -1000000, -333334}, {evenMesh(2, 4), 1000000, 666667, 1000000, 333334}, {evenMesh(4, 2), 166667, 1000000, -666666, 1000000},
		// One half goes away from 0, and less than that to 0.
		{flatMesh(0, 1, 0, 1), 500000, 0, 1, 0}, {flatMesh(0, 1, 0, 1), 499999, 0, 0, 0}, {flatMesh(0, -1, 0, -1), 500000, 0, -1, 0}, {flatMesh(0, -1, 0, -1), 499999, 1000000, 0, 0}, {flatMesh(-1, -2, -1, -2), 500000, 77, -2, 0}, {flatMesh(-1, -2, -1, -2), 499999, 77, -1, 0}, {flatMesh(1, 2, 1, 2), 500000, 0, 2, 0}, {flatMesh(-2, 1, -2, 1), 500000, 0, -1, 0}, {flatMesh(2, -1, 2, -1), 500000, 0, 1, 0}, {flatMesh(-1, 1, -1, 1), 500000, 0, 0, 0},
		{flatMesh(0, 0, 0, 1), 500000, 500000, 0, 0}, {flatMesh(0, 0, 0, 2), 500000, 500000, 1, 0}, {flatMesh(0, 0, 0, -1), 500000, 500000, 0, 0}, {flatMesh(0, 0, 0, -2), 500000, 500000, -1, 0}, {flatMesh(0, 0, 0, 3), 500000, 500000, 1, 0}, {flatMesh(0, 0, 0, -3), 500000, 500000, -1, 0}, {flatMesh(0, 0, 0, 4), 250000, 500000, 1, 0}, {flatMesh(0, 0, 0, -4), 500000, 250000, -1, 0}, {flatMesh(0, 0, 0, 4), 249999, 500000, 0, 0},
		{flatMesh(0, 0, 0, 1000000), 1, 500000, 1, 0}, {flatMesh(0, 0, 0, -1000000), 500000, 1, -1, 0}, {flatMesh(0, 0, 0, 1000000), 1, 499999, 0, 0}, {flatMesh(0, 0, 0, 2000000), 1, 1, 0, 0}, {flatMesh(0, 0, 0, -2000000), 1, 249999, 0, 0}, {flatMesh(0, 0, 0, -2000000), 1, 250000, -1, 0}, {flatMesh(0, 2000000, 0, 0), 1000000, 999999, 2, 0}, {flatMesh(0, 0, 2000000, 0), 999999, 1000000, 2, 0},
	}
	for _, c := range cases {
		checkResult(t, fmt.Sprintf("WarpPoint(%v, %d, %d)", c.m, c.u, c.v), warp(c.m, c.u, c.v), codedSpot{spot(c.x, c.y), impl.OK})
	}
}

func TestP12WarpAndUnwarpRefuse(t *testing.T) {
	for _, m := range validMeshes() {
		for _, n := range []int64{-1, 1000001, -1000000, 2000000, 1 << 32, 1 << 62, minInt, minInt + 1, maxInt} {
			for _, at := range [][2]int64{{n, 0}, {0, n}, {n, 1000000}, {1000000, n}, {n, n}, {n, -1}} {
				checkResult(t, fmt.Sprintf("WarpPoint(%v, %v)", m, at), warp(m, at[0], at[1]), codedSpot{impl.Spot{}, impl.ErrRange})
			}
		}
		for _, n := range beyondPlane() {
			for _, p := range []impl.Spot{spot(n, 0), spot(0, n), spot(n, n), spot(2000000, n), spot(n, -2000000), spot(n, 2000001)} {
				checkResult(t, fmt.Sprintf("UnwarpPoint(%v, %v)", m, p), unwarp(m, p), codedPoint{0, 0, 0, impl.ErrRange})
			}
		}
		for _, n := range []int64{-2000000, 2000000} {
			for _, p := range []impl.Spot{spot(n, 0), spot(0, n), spot(n, n), spot(n, -n)} {
				checkResult(t, fmt.Sprintf("the code of UnwarpPoint(%v, %v)", m, p), unwarp(m, p).code, impl.OK)
			}
		}
	}
}

// plainGridPlace returns the last column but one, or an earlier one, that does not lie behind a coordinate, and the rest.
func plainGridPlace(coordinate, count int64) (int64, int64) {
	rest, index := coordinate*(count-1), int64(0)
	for rest >= 1000000 && index < count-2 {
		rest -= 1000000
		index++
	}
	return index, rest
}

// plainWarp follows the text of the document.
func plainWarp(m impl.Mesh, u, v int64) impl.Spot {
	i, x := plainGridPlace(u, m.Columns)
	j, y := plainGridPlace(v, m.Rows)
	p, q := m.Points[j*m.Columns+i], m.Points[j*m.Columns+i+1]
	r, s := m.Points[(j+1)*m.Columns+i], m.Points[(j+1)*m.Columns+i+1]
	const unit = 1000000
	return spot(
		plainQuotient(p.X*(unit-x)*(unit-y)+q.X*x*(unit-y)+r.X*(unit-x)*y+s.X*x*y, unit*unit),
		plainQuotient(p.Y*(unit-x)*(unit-y)+q.Y*x*(unit-y)+r.Y*(unit-x)*y+s.Y*x*y, unit*unit))
}

// imagePlaces are coordinates of an image at edges, at points of grids and next to them, and many others.
func imagePlaces(random *rand.Rand, count int) []int64 {
	list := []int64{0, 1, 2, 500000, 999998, 999999, 1000000}
	for parts := int64(2); parts <= 8; parts++ {
		for i := int64(1); i < parts; i++ {
			list = append(list, 1000000*i/parts, 1000000*i/parts+1, 500000*i/parts)
		}
	}
	for range count {
		list = append(list, random.Int63n(1000001))
	}
	return list
}

func TestP12WarpsEverywhere(t *testing.T) {
	random := rand.New(rand.NewSource(101))
	places := imagePlaces(random, 20)
	for i, m := range validMeshes() {
		for k, u := range places {
			for _, v := range []int64{places[(3*i+5*k)%len(places)], places[(i+7*k)%len(places)], 0, 1000000, random.Int63n(1000001)} {
				checkResult(t, fmt.Sprintf("WarpPoint(%v, %d, %d)", m, u, v), warp(m, u, v), codedSpot{plainWarp(m, u, v), impl.OK})
			}
		}
	}
}

func TestP12PointsOfTheGridLieAtThePointsOfTheMesh(t *testing.T) {
	random := rand.New(rand.NewSource(102))
	for _, columns := range []int64{2, 3, 5, 6, 9} {
		for _, rows := range []int64{2, 3, 5, 6, 9} {
			m := randomMesh(random, columns, rows)
			for row := range rows {
				for column := range columns {
					// Unit is a multiple of columns - 1 and of rows - 1.
					got := warp(m, 1000000/(columns-1)*column, 1000000/(rows-1)*row)
					checkResult(t, fmt.Sprintf("WarpPoint of %v in %d, %d", m, column, row), got, codedSpot{m.Points[row*columns+column], impl.OK})
				}
			}
		}
	}
}

func TestP12PlainMeshesMoveNothing(t *testing.T) {
	random := rand.New(rand.NewSource(103))
	for columns := int64(2); columns <= 9; columns++ {
		for rows := int64(2); rows <= 9; rows++ {
			m, _ := impl.PlainMesh(columns, rows)
			for range 20 {
				u, v := random.Int63n(1000001), random.Int63n(1000001)
				p := warp(m, u, v).spot
				// Where the quotients of the points have a rest, their rounding may move a point by one.
				most := int64(1)
				if 1000000%(columns-1) == 0 && 1000000%(rows-1) == 0 {
					most = 0
				}
				if max(sizeOf(p.X-2*u+1000000), sizeOf(p.Y-2*v+1000000)) > most {
					t.Errorf("WarpPoint(%v, %d, %d): got %v", m, u, v, p)
				}
			}
		}
	}
}

// Promise 12: back from a warp.

func TestP12UnwarpCases(t *testing.T) {
	plain := evenMesh(2, 2)
	// There and back again: the X of the middle column is reached once, all others twice.
	fold := mesh(3, 2, spot(0, 0), spot(1000000, 0), spot(0, 0), spot(0, 1000000), spot(1000000, 1000000), spot(0, 1000000))
	pile := mesh(2, 3, spot(0, 0), spot(1000000, 0), spot(0, 1000000), spot(1000000, 1000000), spot(0, 0), spot(1000000, 0))
	cases := []struct {
		m    impl.Mesh
		p    impl.Spot
		want codedPoint
	}{
		{plain, spot(-1000000, -1000000), codedPoint{0, 0, 0, impl.OK}}, {plain, spot(1000000, 1000000), codedPoint{1000000, 1000000, 0, impl.OK}}, {plain, spot(1000000, -1000000), codedPoint{1000000, 0, 0, impl.OK}}, {plain, spot(-1000000, 1000000), codedPoint{0, 1000000, 0, impl.OK}}, {plain, spot(0, 0), codedPoint{500000, 500000, 0, impl.OK}}, {plain, spot(-500000, 0), codedPoint{250000, 500000, 0, impl.OK}}, {plain, spot(0, 875000), codedPoint{500000, 937500, 0, impl.OK}},
		// A step beside points of the first grid.
		{plain, spot(-62500, 0), codedPoint{468750, 500000, 0, impl.OK}}, {plain, spot(62500, -62500), codedPoint{531250, 468750, 0, impl.OK}}, {plain, spot(2, -2), codedPoint{500001, 499999, 0, impl.OK}}, {plain, spot(246912, -246912), codedPoint{623456, 376544, 0, impl.OK}},
		// Odd numbers lie between two points of the image; the first one that is tried stays.
		{plain, spot(1, 0), codedPoint{500000, 500000, 1, impl.OK}}, {plain, spot(-1, -1), codedPoint{500000, 500000, 1, impl.OK}}, {plain, spot(-999999, -999999), codedPoint{0, 0, 1, impl.OK}}, {plain, spot(999999, 999999), codedPoint{1000000, 1000000, 1, impl.OK}}, {plain, spot(3, 0), codedPoint{500001, 500000, 1, impl.OK}}, {plain, spot(-3, 0), codedPoint{499999, 500000, 1, impl.OK}},
		// Outside of the mesh.
		{plain, spot(-1500000, -1000000), codedPoint{0, 0, 500000, impl.OK}}, {plain, spot(-2000000, -2000000), codedPoint{0, 0, 1414213, impl.OK}}, {plain, spot(2000000, 2000000), codedPoint{1000000, 1000000, 1414213, impl.OK}}, {plain, spot(2000000, 0), codedPoint{1000000, 500000, 1000000, impl.OK}}, {plain, spot(0, -2000000), codedPoint{500000, 0, 1000000, impl.OK}}, {plain, spot(-2000000, 250000), codedPoint{0, 625000, 1000000, impl.OK}},
		// All points lie at one spot, or at one for each column or row.
		{steadyMesh(2, 2, spot(5, 5)), spot(5, 5), codedPoint{0, 0, 0, impl.OK}}, {steadyMesh(9, 9, spot(5, 5)), spot(8, 9), codedPoint{0, 0, 5, impl.OK}}, {steadyMesh(3, 4, spot(2000000, 2000000)), spot(-2000000, -2000000), codedPoint{0, 0, 5656854, impl.OK}}, {flatMesh(0, 1000000, 0, 1000000), spot(500000, 7), codedPoint{500000, 0, 7, impl.OK}}, {flatMesh(0, 0, 1000000, 1000000), spot(500000, 7), codedPoint{0, 500000, 7, impl.OK}},
		// Several points are equally near to the spot.
		{fold, spot(500000, 0), codedPoint{250000, 0, 0, impl.OK}}, {fold, spot(1000000, 0), codedPoint{500000, 0, 0, impl.OK}}, {fold, spot(0, 500000), codedPoint{0, 500000, 0, impl.OK}}, {fold, spot(250000, 250000), codedPoint{125000, 250000, 0, impl.OK}}, {fold, spot(-1, 0), codedPoint{0, 0, 1, impl.OK}}, {fold, spot(2000000, 1000000), codedPoint{500000, 1000000, 1000000, impl.OK}}, {fold, spot(-3, 1000004), codedPoint{0, 1000000, 5, impl.OK}},
		{pile, spot(0, 500000), codedPoint{0, 250000, 0, impl.OK}}, {pile, spot(1000000, 0), codedPoint{1000000, 0, 0, impl.OK}}, {pile, spot(500000, 250000), codedPoint{500000, 125000, 0, impl.OK}}, {pile, spot(0, 1000000), codedPoint{0, 500000, 0, impl.OK}},
	}
	for _, c := range cases {
		checkResult(t, fmt.Sprintf("UnwarpPoint(%v, %v)", c.m, c.p), unwarp(c.m, c.p), c.want)
	}
}

// plainUnwarp follows the text of the document; the nine points are those around the one that is taken when the first of them is tried.
func plainUnwarp(m impl.Mesh, p impl.Spot) codedPoint {
	u, v, least := int64(0), int64(0), int64(-1)
	try := func(a, b int64) {
		if a < 0 || a > 1000000 || b < 0 || b > 1000000 {
			return
		}
		q := plainWarp(m, a, b)
		if square := (q.X-p.X)*(q.X-p.X) + (q.Y-p.Y)*(q.Y-p.Y); least < 0 || square < least {
			u, v, least = a, b, square
		}
	}
	for b := int64(0); b <= 16; b++ {
		for a := int64(0); a <= 16; a++ {
			try(a*62500, b*62500)
		}
	}
	for _, step := range []int64{31250, 31250, 15625, 15625, 7812, 7812, 3906, 3906, 1953, 1953, 976, 976, 488, 488, 244, 244, 122, 122, 61, 61, 30, 30, 15, 15, 7, 7, 3, 3, 1, 1} {
		middleU, middleV := u, v
		for _, b := range []int64{-1, 0, 1} {
			for _, a := range []int64{-1, 0, 1} {
				try(middleU+a*step, middleV+b*step)
			}
		}
	}
	return codedPoint{u, v, plainRoot(least), impl.OK}
}

// goalsOf are spots at points of a mesh, near to them, between them, and anywhere.
func goalsOf(random *rand.Rand, m impl.Mesh) []impl.Spot {
	list := []impl.Spot{spot(0, 0), spot(2000000, 2000000), spot(-2000000, 2000000), spot(-2000000, -2000000)}
	for range 3 {
		p := m.Points[random.Intn(len(m.Points))]
		near := spot(min(max(p.X+randomCoordinate(random, 5), -2000000), 2000000), min(max(p.Y+randomCoordinate(random, 500), -2000000), 2000000))
		list = append(list, p, near, plainWarp(m, random.Int63n(1000001), random.Int63n(1000001)), spot(randomCoordinate(random, 2000000), randomCoordinate(random, 2000000)))
	}
	return list
}

func TestP12UnwarpsEverywhere(t *testing.T) {
	random := rand.New(rand.NewSource(104))
	meshes := validMeshes()
	for range 60 {
		meshes = append(meshes, randomMesh(random, randomSize(random), randomSize(random)))
	}
	for _, m := range meshes {
		for _, p := range goalsOf(random, m) {
			checkResult(t, fmt.Sprintf("UnwarpPoint(%v, %v)", m, p), unwarp(m, p), plainUnwarp(m, p))
		}
	}
}

// apartOnPlane returns the square of the distance of two spots.
func apartOnPlane(p, q impl.Spot) int64 { return (q.X-p.X)*(q.X-p.X) + (q.Y-p.Y)*(q.Y-p.Y) }

func TestP12WhatAWarpLeadsBackToLiesAsNearAsTold(t *testing.T) {
	random := rand.New(rand.NewSource(105))
	for range 150 {
		m := randomMesh(random, randomSize(random), randomSize(random))
		for _, p := range goalsOf(random, m) {
			back := unwarp(m, p)
			call := fmt.Sprintf("UnwarpPoint(%v, %v)", m, p)
			there := warp(m, back.u, back.v)
			checkResult(t, "WarpPoint of "+call, there.code, impl.OK)
			square := apartOnPlane(there.spot, p)
			checkResult(t, "the distance of "+call, back.distance, plainRoot(square))
			// No point of the first grid is nearer.
			for v := int64(0); v <= 1000000; v += 62500 {
				for u := int64(0); u <= 1000000; u += 62500 {
					if apartOnPlane(warp(m, u, v).spot, p) < square {
						t.Errorf("%s: got %v, but %d, %d is nearer", call, back, u, v)
					}
				}
			}
		}
	}
}

func TestP12PlainMeshesLeadBack(t *testing.T) {
	random := rand.New(rand.NewSource(106))
	for _, size := range [][2]int64{{2, 2}, {3, 5}, {9, 9}, {6, 2}, {2, 6}, {5, 9}} {
		m := evenMesh(size[0], size[1])
		for row := range size[1] {
			for column := range size[0] {
				got := unwarp(m, m.Points[row*size[0]+column])
				checkResult(t, fmt.Sprintf("UnwarpPoint(%v) of the point in %d, %d", m, column, row), got, codedPoint{1000000 / (size[0] - 1) * column, 1000000 / (size[1] - 1) * row, 0, impl.OK})
			}
		}
		for range 100 {
			u, v := random.Int63n(1000001), random.Int63n(1000001)
			p := warp(m, u, v).spot
			checkResult(t, fmt.Sprintf("UnwarpPoint(%v, %v)", m, p), unwarp(m, p), codedPoint{u, v, 0, impl.OK})
		}
	}
}

// Promise 12: folded cells.

// allCells are the indices of all cells of a mesh.
func allCells(m impl.Mesh) []int64 { return allIndices(int((m.Columns - 1) * (m.Rows - 1))) }

func checkFolded(t *testing.T, m impl.Mesh, want []int64) {
	t.Helper()
	checkResult(t, fmt.Sprintf("FoldedCells(%v)", m), codedMany(impl.FoldedCells(m)), codedMany(want, impl.OK))
}

func TestP12WholeMeshesAreFoldedOrNot(t *testing.T) {
	for columns := int64(2); columns <= 9; columns++ {
		for rows := int64(2); rows <= 9; rows++ {
			plain := evenMesh(columns, rows)
			checkFolded(t, plain, nil)
			// The other way round, or without an area.
			checkFolded(t, mirrored(plain), allCells(plain))
			backwards := slices.Clone(plain.Points)
			slices.Reverse(backwards)
			checkFolded(t, mesh(columns, rows, backwards...), nil)
			checkFolded(t, steadyMesh(columns, rows, spot(-5, 5)), allCells(plain))
			flat := slices.Clone(plain.Points)
			for i := range flat {
				flat[i].Y = flat[i].X
			}
			checkFolded(t, mesh(columns, rows, flat...), allCells(plain))
		}
	}
}

func TestP12FoldedCellsCases(t *testing.T) {
	plain, wide := evenMesh(2, 2), evenMesh(4, 3)
	cases := []struct {
		m    impl.Mesh
		want []int64
	}{
		// Each corner in turn just before, on and behind the line between the ones next to it.
		{withPoint(plain, 0, 0, spot(-1, 0)), nil}, {withPoint(plain, 0, 0, spot(0, 0)), []int64{0}}, {withPoint(plain, 0, 0, spot(1, 0)), []int64{0}}, {withPoint(plain, 0, 0, spot(1000000, 1000000)), []int64{0}},
		{withPoint(plain, 1, 0, spot(1, 0)), nil}, {withPoint(plain, 1, 0, spot(0, 0)), []int64{0}}, {withPoint(plain, 1, 0, spot(-1, 0)), []int64{0}}, {withPoint(plain, 1, 0, spot(-1000000, 1000000)), []int64{0}},
		{withPoint(plain, 0, 1, spot(-1, 0)), nil}, {withPoint(plain, 0, 1, spot(0, 0)), []int64{0}}, {withPoint(plain, 0, 1, spot(1, 0)), []int64{0}}, {withPoint(plain, 0, 1, spot(0, -1)), []int64{0}},
		{withPoint(plain, 1, 1, spot(1, 0)), nil}, {withPoint(plain, 1, 1, spot(0, 0)), []int64{0}}, {withPoint(plain, 1, 1, spot(-1, 0)), []int64{0}}, {withPoint(plain, 1, 1, spot(0, -1)), []int64{0}},
		// Two corners at one place, and two that are exchanged.
		{flatMesh(0, 0, 0, 0), []int64{0}}, {withPoint(plain, 1, 0, spot(-1000000, -1000000)), []int64{0}}, {mesh(2, 2, spot(-1, -1), spot(1, 1), spot(-1, 1), spot(1, -1)), []int64{0}}, {mesh(2, 2, spot(-1, -1), spot(-1, 1), spot(1, -1), spot(1, 1)), []int64{0}}, {mesh(2, 2, spot(0, 0), spot(1, 0), spot(0, 1), spot(1, 1)), nil},
		// The ends of the plane.
		{mesh(2, 2, spot(-2000000, -2000000), spot(2000000, -2000000), spot(-2000000, 2000000), spot(2000000, 2000000)), nil}, {mesh(2, 2, spot(2000000, -2000000), spot(-2000000, -2000000), spot(2000000, 2000000), spot(-2000000, 2000000)), []int64{0}}, {mesh(2, 2, spot(-2000000, -2000000), spot(2000000, 2000000), spot(-2000000, 2000000), spot(2000000, 2000000)), []int64{0}},
		// One cell of three by three, and others at its sides.
		{withPoint(evenMesh(4, 4), 1, 1, spot(10000, 10000)), []int64{4}}, {withPoint(evenMesh(4, 4), 2, 2, spot(-10000, -10000)), []int64{4}}, {withPoint(evenMesh(4, 4), 2, 1, spot(-10000, 10000)), []int64{4}}, {withPoint(evenMesh(4, 4), 1, 2, spot(10000, -10000)), []int64{4}}, {withPoint(evenMesh(4, 4), 0, 0, spot(-500000, -500000)), []int64{0}}, {withPoint(evenMesh(4, 4), 3, 3, spot(500000, 500000)), []int64{8}},
		// Columns and rows are not the same: cells are counted along the rows.
		{withPoint(wide, 3, 0, spot(400000, -100000)), []int64{2}}, {withPoint(wide, 0, 2, spot(-400000, 100000)), []int64{3}}, {withPoint(wide, 3, 2, spot(400000, 100000)), []int64{5}}, {withPoint(wide, 1, 1, spot(-1000000, 0)), []int64{0, 3}}, {withPoint(wide, 2, 1, spot(333333, -1000000)), []int64{1, 2}}, {withPoint(wide, 1, 1, spot(333333, 0)), []int64{1, 4}}, {withPoint(evenMesh(2, 9), 1, 8, spot(-900000, 700000)), []int64{7}}, {withPoint(evenMesh(9, 2), 8, 1, spot(700000, -900000)), []int64{7}}, {withPoint(evenMesh(2, 9), 0, 0, spot(900000, -700000)), []int64{0}},
	}
	for _, c := range cases {
		checkFolded(t, c.m, c.want)
	}
}

// plainFolded follows the text of the document.
func plainFolded(m impl.Mesh) []int64 {
	folded := []int64{}
	turnsBack := func(a, b, c impl.Spot) bool { return (b.X-a.X)*(c.Y-a.Y)-(b.Y-a.Y)*(c.X-a.X) <= 0 }
	for index := range (m.Columns - 1) * (m.Rows - 1) {
		at := index/(m.Columns-1)*m.Columns + index%(m.Columns-1)
		p, q, r, s := m.Points[at], m.Points[at+1], m.Points[at+m.Columns], m.Points[at+m.Columns+1]
		if turnsBack(p, q, s) || turnsBack(q, s, r) || turnsBack(s, r, p) || turnsBack(r, p, q) {
			folded = append(folded, index)
		}
	}
	return folded
}

func TestP12FoldedCellsEverywhere(t *testing.T) {
	random := rand.New(rand.NewSource(107))
	some := 0
	for range 2000 {
		m := randomMesh(random, randomSize(random), randomSize(random))
		want := plainFolded(m)
		checkFolded(t, m, want)
		if len(want) > 0 && len(want) < len(allCells(m)) {
			some++
		}
	}
	if some < 200 {
		t.Errorf("only %d of 2000 meshes have folded cells and others", some)
	}
}

// Promise 12: blended meshes.

func TestP12BlendCases(t *testing.T) {
	cases := []struct{ a, b, share, want int64 }{
		{0, 1, 499, 0}, {0, 1, 500, 1}, {0, 1, 501, 1}, {0, -1, 499, 0}, {0, -1, 500, -1}, {0, -1, 501, -1}, {10, 7, 500, 8}, {7, 10, 500, 9}, {-10, -7, 500, -8}, {-7, -10, 500, -9},
		{0, -500, 1, -1}, {0, -499, 1, 0}, {0, 500, 1, 1}, {0, 499, 1, 0}, {0, -1000, 333, -333}, {0, -1001, 333, -333}, {0, -1002, 333, -334}, {5, -997, 333, -329}, {100, -233, 3, 99}, {0, -7, 300, -2}, {0, -8, 300, -2}, {0, -9, 300, -3}, {-3, 4, 1000, 4}, {-3, 4, 0, -3},
		{-2000000, 2000000, 999, 1996000}, {2000000, -2000000, 1, 1996000}, {-2000000, 2000000, 500, 0}, {2000000, -2000000, 1000, -2000000}, {2000000, -2000000, 0, 2000000}, {2000000, 2000000, 777, 2000000}, {1999999, -2000000, 500, -1}, {-1999999, 2000000, 500, 1},
	}
	for _, c := range cases {
		a, b, want := withPoint(evenMesh(2, 3), 1, 0, spot(c.a, -c.a)), withPoint(evenMesh(2, 3), 1, 0, spot(c.b, -c.b)), withPoint(evenMesh(2, 3), 1, 0, spot(c.want, -c.want))
		checkResult(t, fmt.Sprintf("BlendMeshes of %d and %d with the share %d", c.a, c.b, c.share), codedGrid(impl.BlendMeshes(a, b, c.share)), codedGrid(want, impl.OK))
	}
}

func TestP12BlendsEverywhere(t *testing.T) {
	random := rand.New(rand.NewSource(108))
	for range 500 {
		columns, rows := randomSize(random), randomSize(random)
		a, b := randomMesh(random, columns, rows), randomMesh(random, columns, rows)
		checkResult(t, "BlendMeshes with the share 0", codedGrid(impl.BlendMeshes(a, b, 0)), codedGrid(a, impl.OK))
		checkResult(t, "BlendMeshes with the share 1000", codedGrid(impl.BlendMeshes(a, b, 1000)), codedGrid(b, impl.OK))
		for _, share := range []int64{1, 500, 999, random.Int63n(1001)} {
			want := mesh(columns, rows)
			for i, p := range a.Points {
				q := b.Points[i]
				want.Points = append(want.Points, spot(p.X+plainQuotient((q.X-p.X)*share, 1000), p.Y+plainQuotient((q.Y-p.Y)*share, 1000)))
			}
			checkResult(t, fmt.Sprintf("BlendMeshes(%v, %v, %d)", a, b, share), codedGrid(impl.BlendMeshes(a, b, share)), codedGrid(want, impl.OK))
		}
	}
}

// otherSizes are pairs of sizes that are not the same, some of them with the same number of points.
func otherSizes() [][2]impl.Mesh {
	list := [][2]impl.Mesh{}
	for _, n := range [][4]int64{{2, 2, 3, 2}, {2, 2, 2, 3}, {9, 9, 9, 8}, {9, 9, 8, 9}, {3, 4, 4, 3}, {4, 4, 2, 8}, {2, 9, 3, 6}, {2, 9, 9, 2}, {6, 6, 4, 9}, {2, 2, 9, 9}} {
		list = append(list, [2]impl.Mesh{evenMesh(n[0], n[1]), evenMesh(n[2], n[3])}, [2]impl.Mesh{evenMesh(n[2], n[3]), evenMesh(n[0], n[1])})
	}
	return list
}

func TestP12TwoMeshesAreRefused(t *testing.T) {
	noShares := []int64{-1, 1001, -1000, 2000, 1 << 32, minInt, maxInt}
	for _, pair := range otherSizes() {
		for _, share := range []int64{0, 1, 500, 999, 1000} {
			checkRefused(t, bothCalls(pair[0], pair[1], share), impl.ErrOrder)
		}
		// The share is checked before the sizes.
		for _, share := range noShares {
			checkResult(t, fmt.Sprintf("BlendMeshes(%v, %d)", pair, share), codedGrid(impl.BlendMeshes(pair[0], pair[1], share)), codedGrid(impl.Mesh{}, impl.ErrRange))
		}
	}
	for _, m := range validMeshes() {
		for _, share := range noShares {
			checkResult(t, fmt.Sprintf("BlendMeshes(%v, %d)", m, share), codedGrid(impl.BlendMeshes(m, m, share)), codedGrid(impl.Mesh{}, impl.ErrRange))
		}
	}
}

// Promise 12: mirrored meshes.

func TestP12MirrorMesh(t *testing.T) {
	m := mesh(3, 2, spot(1, 2), spot(3, 4), spot(-5, 6), spot(7, -8), spot(0, 10), spot(11, 2000000))
	checkResult(t, "MirrorMesh", codedGrid(impl.MirrorMesh(m)), codedGrid(mesh(3, 2, spot(5, 6), spot(-3, 4), spot(-1, 2), spot(-11, 2000000), spot(0, 10), spot(-7, -8)), impl.OK))
	ends := flatMesh(2000000, -2000000, 1999999, 2000000)
	checkResult(t, "MirrorMesh of the ends", codedGrid(impl.MirrorMesh(ends)), codedGrid(flatMesh(2000000, -2000000, -2000000, -1999999), impl.OK))
	for _, m := range validMeshes() {
		once, code := impl.MirrorMesh(m)
		checkResult(t, fmt.Sprintf("the code of MirrorMesh(%v)", m), code, impl.OK)
		for i, p := range m.Points {
			row, column := int64(i)/m.Columns, int64(i)%m.Columns
			checkResult(t, fmt.Sprintf("MirrorMesh(%v) in %d, %d", m, column, row), once.Points[row*m.Columns+m.Columns-1-column], spot(-p.X, p.Y))
		}
		checkResult(t, fmt.Sprintf("MirrorMesh twice of %v", m), codedGrid(impl.MirrorMesh(once)), codedGrid(m, impl.OK))
	}
}

func TestP12MirroredMeshesMirrorTheirWarps(t *testing.T) {
	random := rand.New(rand.NewSource(109))
	for range 300 {
		m := randomMesh(random, randomSize(random), randomSize(random))
		other, _ := impl.MirrorMesh(m)
		u, v := random.Int63n(1000001), random.Int63n(1000001)
		p := warp(m, u, v).spot
		checkResult(t, fmt.Sprintf("WarpPoint(%v, %d, %d), mirrored", m, u, v), warp(other, 1000000-u, v), codedSpot{spot(-p.X, p.Y), impl.OK})
		checkResult(t, fmt.Sprintf("GreatestMove(%v) from its mirror image", m), coded(impl.GreatestMove(m, other)), coded(impl.GreatestMove(other, m)))
	}
}

// Promise 12: refined meshes.

func TestP12RefineCases(t *testing.T) {
	cases := []struct {
		m    impl.Mesh
		want []int64
	}{
		{flatMesh(0, 8, 16, 40), []int64{0, 4, 8, 8, 16, 24, 16, 28, 40}},
		// The sums of four are 1, 2, 3, and 5, 6 and 7.
		{flatMesh(0, 0, 0, 1), []int64{0, 0, 0, 0, 0, 1, 0, 1, 1}}, {flatMesh(0, 1, 0, 1), []int64{0, 1, 1, 0, 1, 1, 0, 1, 1}}, {flatMesh(1, 1, 1, 0), []int64{1, 1, 1, 1, 1, 1, 1, 1, 0}}, {flatMesh(1, 1, 1, 2), []int64{1, 1, 1, 1, 1, 2, 1, 2, 2}}, {flatMesh(1, 2, 1, 2), []int64{1, 2, 2, 1, 2, 2, 1, 2, 2}}, {flatMesh(2, 2, 2, 1), []int64{2, 2, 2, 2, 2, 2, 2, 2, 1}},
		// The same with negative ones.
		{flatMesh(0, 0, 0, -1), []int64{0, 0, 0, 0, 0, -1, 0, -1, -1}}, {flatMesh(0, -1, 0, -1), []int64{0, -1, -1, 0, -1, -1, 0, -1, -1}}, {flatMesh(-1, -1, -1, 0), []int64{-1, -1, -1, -1, -1, -1, -1, -1, 0}}, {flatMesh(-1, -1, -1, -2), []int64{-1, -1, -1, -1, -1, -2, -1, -2, -2}}, {flatMesh(-1, -2, -1, -2), []int64{-1, -2, -2, -1, -2, -2, -1, -2, -2}}, {flatMesh(-2, -2, -2, -1), []int64{-2, -2, -2, -2, -2, -2, -2, -2, -1}}, {flatMesh(0, 0, 0, -3), []int64{0, 0, 0, 0, -1, -2, 0, -2, -3}}, {flatMesh(1, -2, 0, 0), []int64{1, -1, -2, 1, 0, -1, 0, 0, 0}},
		{flatMesh(2000000, -2000000, -2000000, -2000000), []int64{2000000, 0, -2000000, 0, -1000000, -2000000, -2000000, -2000000, -2000000}}, {flatMesh(-2000000, -2000000, -2000000, -1999999), []int64{-2000000, -2000000, -2000000, -2000000, -2000000, -2000000, -2000000, -2000000, -1999999}},
	}
	for _, c := range cases {
		want, other, turned := mesh(3, 3), mesh(2, 2), mesh(3, 3)
		for _, x := range c.want {
			want.Points, turned.Points = append(want.Points, spot(x, 0)), append(turned.Points, spot(7, x))
		}
		for _, p := range c.m.Points {
			other.Points = append(other.Points, spot(7, p.X))
		}
		checkResult(t, fmt.Sprintf("RefineMesh(%v)", c.m), codedGrid(impl.RefineMesh(c.m)), codedGrid(want, impl.OK))
		checkResult(t, fmt.Sprintf("RefineMesh(%v)", other), codedGrid(impl.RefineMesh(other)), codedGrid(turned, impl.OK))
	}
	fine := mesh(5, 3, spot(0, 0), spot(5, 0), spot(10, 0), spot(15, 0), spot(20, 0), spot(0, 10), spot(5, 13), spot(10, 15), spot(15, 18), spot(20, 20), spot(0, 20), spot(5, 25), spot(10, 30), spot(15, 35), spot(20, 40))
	checkResult(t, "RefineMesh of 3 by 2", codedGrid(impl.RefineMesh(mesh(3, 2, spot(0, 0), spot(10, 0), spot(20, 0), spot(0, 20), spot(10, 30), spot(20, 40)))), codedGrid(fine, impl.OK))
}

func TestP12RefinedMeshesKeepTheirPoints(t *testing.T) {
	random := rand.New(rand.NewSource(110))
	for range 500 {
		m := randomMesh(random, 2+random.Int63n(4), 2+random.Int63n(4))
		fine, code := impl.RefineMesh(m)
		call := fmt.Sprintf("RefineMesh(%v)", m)
		checkResult(t, "the size and the code of "+call, [4]int64{fine.Columns, fine.Rows, int64(len(fine.Points)), code}, [4]int64{2*m.Columns - 1, 2*m.Rows - 1, (2*m.Columns - 1) * (2*m.Rows - 1), impl.OK})
		for row := range fine.Rows {
			for column := range fine.Columns {
				sum := impl.Spot{}
				for _, i := range []int64{column / 2, column/2 + column%2} {
					for _, k := range []int64{row / 2, row/2 + row%2} {
						p := m.Points[k*m.Columns+i]
						sum = spot(sum.X+p.X, sum.Y+p.Y)
					}
				}
				got := fine.Points[row*fine.Columns+column]
				checkResult(t, fmt.Sprintf("%s in %d, %d", call, column, row), got, spot(plainQuotient(sum.X, 4), plainQuotient(sum.Y, 4)))
				if column%2 == 0 && row%2 == 0 {
					checkResult(t, fmt.Sprintf("%s in %d, %d", call, column, row), got, m.Points[row/2*m.Columns+column/2])
				}
			}
		}
	}
}

func TestP12RefineMeshIsFull(t *testing.T) {
	for columns := int64(2); columns <= 9; columns++ {
		for rows := int64(2); rows <= 9; rows++ {
			fine, code := impl.RefineMesh(evenMesh(columns, rows))
			if max(columns, rows) > 5 {
				checkResult(t, fmt.Sprintf("RefineMesh of %d by %d", columns, rows), codedGrid(fine, code), codedGrid(impl.Mesh{}, impl.ErrFull))
				continue
			}
			checkResult(t, fmt.Sprintf("the size and the code of RefineMesh of %d by %d", columns, rows), [3]int64{fine.Columns, fine.Rows, code}, [3]int64{2*columns - 1, 2*rows - 1, impl.OK})
		}
	}
	checkResult(t, "RefineMesh of 5 by 5", codedGrid(impl.RefineMesh(evenMesh(5, 5))), codedGrid(evenMesh(9, 9), impl.OK))
	checkResult(t, "RefineMesh of 2 by 2", codedGrid(impl.RefineMesh(evenMesh(2, 2))), codedGrid(evenMesh(3, 3), impl.OK))
}

// Promise 12: moved points.

func TestP12MoveMeshPoint(t *testing.T) {
	m := evenMesh(4, 3)
	for row := range int64(3) {
		for column := range int64(4) {
			for _, p := range []impl.Spot{spot(0, 0), spot(5, -6), spot(2000000, -2000000), spot(-2000000, 2000000), spot(-2000000, -2000000), spot(2000000, 2000000)} {
				want := withPoint(m, column, row, p)
				checkResult(t, fmt.Sprintf("MoveMeshPoint of %d, %d to %v", column, row, p), codedGrid(impl.MoveMeshPoint(m, column, row, p)), codedGrid(want, impl.OK))
			}
		}
	}
	for _, m := range validMeshes() {
		for _, at := range [][2]int64{{0, 0}, {m.Columns - 1, 0}, {0, m.Rows - 1}, {m.Columns - 1, m.Rows - 1}} {
			checkResult(t, fmt.Sprintf("MoveMeshPoint(%v) of %v", m, at), codedGrid(impl.MoveMeshPoint(m, at[0], at[1], spot(1, 2))), codedGrid(withPoint(m, at[0], at[1], spot(1, 2)), impl.OK))
		}
	}
}

func TestP12MoveMeshPointRefuses(t *testing.T) {
	for _, m := range validMeshes() {
		refused := codedGrid(impl.Mesh{}, impl.ErrRange)
		for _, n := range []int64{-1, m.Columns, -m.Columns, minInt, maxInt, 1 << 32} {
			checkResult(t, fmt.Sprintf("MoveMeshPoint(%v) of the column %d", m, n), codedGrid(impl.MoveMeshPoint(m, n, 1, spot(0, 0))), refused)
		}
		for _, n := range []int64{-1, m.Rows, -m.Rows, minInt, maxInt, 1 << 32} {
			checkResult(t, fmt.Sprintf("MoveMeshPoint(%v) of the row %d", m, n), codedGrid(impl.MoveMeshPoint(m, 1, n, spot(0, 0))), refused)
		}
		for _, n := range beyondPlane() {
			for _, p := range []impl.Spot{spot(n, 0), spot(0, n), spot(n, n), spot(2000000, n), spot(n, -2000000)} {
				checkResult(t, fmt.Sprintf("MoveMeshPoint(%v) to %v", m, p), codedGrid(impl.MoveMeshPoint(m, 0, 1, p)), refused)
			}
		}
	}
}

// Promise 12: the greatest move.

func TestP12GreatestMoveCases(t *testing.T) {
	low, high := steadyMesh(3, 2, spot(-2000000, -2000000)), steadyMesh(3, 2, spot(2000000, 2000000))
	cases := []struct {
		a, b impl.Mesh
		want int64
	}{
		{low, high, 5656854}, {low, steadyMesh(3, 2, spot(2000000, -2000000)), 4000000}, {low, withPoint(low, 2, 1, spot(2000000, 2000000)), 5656854}, {low, withPoint(low, 0, 0, spot(-2000000, 2000000)), 4000000},
		{low, withPoint(low, 1, 0, spot(-1999997, -1999996)), 5}, {low, withPoint(low, 1, 0, spot(-1999999, -2000000)), 1}, {low, withPoint(low, 1, 0, spot(-1999999, -1999999)), 1}, {low, withPoint(low, 1, 1, spot(-1999998, -1999998)), 2}, {flatMesh(0, 0, 0, 0), flatMesh(1, -7, 3, 5), 7}, {flatMesh(5, 6, 7, 8), flatMesh(8, 7, 6, 5), 3},
		{evenMesh(2, 2), flatMesh(0, 0, 0, 0), 1414213}, {evenMesh(2, 2), mirrored(evenMesh(2, 2)), 2000000},
	}
	for _, c := range cases {
		checkResult(t, fmt.Sprintf("GreatestMove(%v, %v)", c.a, c.b), coded(impl.GreatestMove(c.a, c.b)), coded(c.want, impl.OK))
		checkResult(t, fmt.Sprintf("GreatestMove(%v, %v)", c.b, c.a), coded(impl.GreatestMove(c.b, c.a)), coded(c.want, impl.OK))
	}
	for _, m := range validMeshes() {
		checkResult(t, fmt.Sprintf("GreatestMove of %v from itself", m), coded(impl.GreatestMove(m, m)), coded(0, impl.OK))
	}
}

func TestP12GreatestMovesEverywhere(t *testing.T) {
	random := rand.New(rand.NewSource(111))
	for range 1000 {
		columns, rows := randomSize(random), randomSize(random)
		a, b := randomMesh(random, columns, rows), randomMesh(random, columns, rows)
		square := int64(0)
		for i, p := range a.Points {
			square = max(square, apartOnPlane(p, b.Points[i]))
		}
		checkResult(t, fmt.Sprintf("GreatestMove(%v, %v)", a, b), coded(impl.GreatestMove(a, b)), coded(plainRoot(square), impl.OK))
	}
}

// Promise 12: texts.

var meshTexts = textForm[impl.Mesh]{"Mesh", impl.MeshText, impl.ReadMesh}

func TestP12MeshIsReadBack(t *testing.T) {
	cases := []struct {
		m    impl.Mesh
		text string
	}{
		{evenMesh(2, 2), "2x2 -1000000,-1000000 1000000,-1000000 -1000000,1000000 1000000,1000000"}, {steadyMesh(2, 2, impl.Spot{}), "2x2 0,0 0,0 0,0 0,0"}, {mesh(3, 2, spot(1, -2), spot(-3, 4), spot(0, 0), spot(-2000000, 2000000), spot(2000000, -2000000), spot(10, -10)), "3x2 1,-2 -3,4 0,0 -2000000,2000000 2000000,-2000000 10,-10"},
		{steadyMesh(2, 3, spot(-1, 1)), "2x3 -1,1 -1,1 -1,1 -1,1 -1,1 -1,1"}, {steadyMesh(9, 9, spot(7, 8)), "9x9" + strings.Repeat(" 7,8", 81)},
	}
	for _, c := range cases {
		meshTexts.checkReadBack(t, c.m, c.text)
	}
	for _, m := range validMeshes() {
		text := fmt.Sprintf("%dx%d", m.Columns, m.Rows)
		for _, p := range m.Points {
			text += fmt.Sprintf(" %d,%d", p.X, p.Y)
		}
		meshTexts.checkReadBack(t, m, text)
	}
}

func TestP12MeshTextRefuses(t *testing.T) { meshTexts.checkNoTexts(t, invalidMeshes()) }

func TestP12ReadMeshRefuses(t *testing.T) {
	texts := []string{
		"2x2 0,0 0,0 0,0", "2x2 0,0 0,0 0,0 0,0 0,0", "2x2", "2x2 ", "2x2 0,0", "2x3 0,0 0,0 0,0 0,0", "3x2 0,0 0,0 0,0 0,0", "3x3 0,0 0,0 0,0 0,0 0,0 0,0 0,0 0,0", "1x4 0,0 0,0 0,0 0,0", "4x1 0,0 0,0 0,0 0,0", "1x1 0,0", "0x0", "0x4", "-2x-2 0,0 0,0 0,0 0,0", "2x-2 0,0 0,0 0,0 0,0",
		"10x2" + strings.Repeat(" 0,0", 20), "2x10" + strings.Repeat(" 0,0", 20), "9x9" + strings.Repeat(" 0,0", 80), "9x9" + strings.Repeat(" 0,0", 82), "4294967296x4294967296", "4611686018427387904x4", "2x4611686018427387904",
		"2x2  0,0 0,0 0,0 0,0", " 2x2 0,0 0,0 0,0 0,0", "2x2 0,0 0,0 0,0 0,0 ", "2x2 0,0  0,0 0,0 0,0", "2x2 0,0 0,0 0,0  0,0", "2x2 0,0 0,0 0,0 0, 0", "2x2 0,0 0,0 0,0 0 ,0", "2x2 0,0 0,0 0,00,0", "2x20,0 0,0 0,0 0,0", "2 x2 0,0 0,0 0,0 0,0", "2x 2 0,0 0,0 0,0 0,0", "2x2\t0,0 0,0 0,0 0,0", "2x2 0,0 0,0 0,0 0,0\n", "2x2\u00a00,0 0,0 0,0 0,0", "2x2 0,0\n0,0 0,0 0,0",
		"2X2 0,0 0,0 0,0 0,0", "2*2 0,0 0,0 0,0 0,0", "2,2 0,0 0,0 0,0 0,0", "22 0,0 0,0 0,0 0,0", "2 0,0 0,0 0,0 0,0", "2x 0,0 0,0 0,0 0,0", "x2 0,0 0,0 0,0 0,0", "x 0,0 0,0 0,0 0,0", "2xx2 0,0 0,0 0,0 0,0", "2x2x2 0,0 0,0 0,0 0,0", "x2x2 0,0 0,0 0,0 0,0", "2x2x 0,0 0,0 0,0 0,0", "2\u00d72 0,0 0,0 0,0 0,0", "a 2x2 0,0 0,0 0,0 0,0", "0,0 0,0 0,0 0,0", "0,0 0,0 0,0 0,0 2x2",
		"2x2,0,0,0,0,0,0,0,0", "2x2 0 0 0 0 0 0 0 0", "2x2 0,0,0,0,0,0,0,0", "2x2 0,0,0 0,0 0,0 0,0", "2x2 0, 0,0 0,0 0,0", "2x2 ,0 0,0 0,0 0,0", "2x2 , 0,0 0,0 0,0", "2x2 - 0,0 0,0 0,0", "2x2 0,,0 0,0 0,0 0,0", "2x2 0 0,0 0,0 0,0", "2x2 0.0 0,0 0,0 0,0", "2x2 0;0 0,0 0,0 0,0", "2x2 0x0 0,0 0,0 0,0",
		"2x2 " + strings.Repeat("0", 10000) + ",0 0,0 0,0 0,0", strings.Repeat("2", 10000) + "x2 0,0 0,0 0,0 0,0", "2x2" + strings.Repeat(" 0,0", 10000), "2x2 0" + strings.Repeat(",0", 10000), "2" + strings.Repeat("x2", 10000) + " 0,0 0,0 0,0 0,0",
	}
	for _, word := range append(noNumbers(), "+0", "2000001", "-2000001", "1 ", "1\t", "\u0661", "0x0") {
		texts = append(texts, "2x2 "+word+",0 0,0 0,0 0,0", "2x2 0,"+word+" 0,0 0,0 0,0", "2x2 0,0 0,0 0,0 "+word+",0", "2x2 0,0 0,0 0,0 0,"+word)
	}
	for _, word := range append(noNumbers(), "02", "+2", "2.0", "1", "0", "10", "-2", "2e0", "0x2", "\u0662") {
		texts = append(texts, word+"x2 0,0 0,0 0,0 0,0", "2x"+word+" 0,0 0,0 0,0 0,0")
	}
	meshTexts.checkNotRead(t, append(texts, edgeTexts()...))
}

func TestP12ReadMeshRefusesChangedBytes(t *testing.T) {
	meshTexts.checkChanged(t, "3x2 -5,0 10,-20 7,2000000 0,1 -1999999,4 12,3")
	meshTexts.checkNoParts(t, "3x2 -5,0 10,-20 7,2000000 0,1 -1999999,4 12,3")
}
