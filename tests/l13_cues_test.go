package tests

import (
	"cmp"
	"fmt"
	"math/rand"
	"slices"
	"strconv"
	"strings"
	"testing"

	"loop.example/g00955/impl"
)

// cueOf returns the cue with the words Id, Time, Target, action, Value and Length, the last two of which may be missing.
func cueOf(text string) impl.Cue {
	words := append(strings.Fields(text), "0", "0")
	number := func(i int) int64 {
		n, err := strconv.ParseInt(words[i], 10, 64)
		if err != nil {
			panic(err)
		}
		return n
	}
	actions := map[string]int64{"set": impl.CuSet, "fade": impl.CuFade, "stop": impl.CuStop}
	return impl.Cue{Id: words[0], Time: number(1), Target: words[2], Action: actions[words[3]], Value: number(4), Length: number(5)}
}

func cuesOf(texts ...string) []impl.Cue {
	list := []impl.Cue{}
	for _, text := range texts {
		list = append(list, cueOf(text))
	}
	return list
}

// fewCues is a valid list with all actions, two targets, and cues at the same time.
func fewCues() []impl.Cue {
	return cuesOf("a 0 sun set 100", "b 1000 sun fade 600 500", "d 1000 hall set 40", "c 1200 sun stop")
}

// evenCues returns a number of cues, one every thousandth.
func evenCues(count int) []impl.Cue {
	list := []impl.Cue{}
	for i := range count {
		list = append(list, cueOf(fmt.Sprintf("%s %d sun set %d", numberedName(i), i, i)))
	}
	return list
}

func orderCues(a, b impl.Cue) int {
	return cmp.Or(cmp.Compare(a.Time, b.Time), cmp.Compare(a.Id, b.Id))
}

// randomCues returns a valid list in which the cues of few targets are often at the same time, or within fades.
func randomCues(random *rand.Rand, count int) []impl.Cue {
	list := []impl.Cue{}
	for _, i := range random.Perm(100)[:count] {
		c := impl.Cue{Id: numberedName(i), Time: random.Int63n(60), Target: []string{"sun", "hall", "moon"}[random.Intn(3)], Action: 1 + random.Int63n(3)}
		if random.Intn(4) == 0 {
			c.Time = []int64{0, 30, 7199950, 7199990 + random.Int63n(11)}[random.Intn(4)]
		}
		if c.Action == impl.CuFade && c.Time == impl.MaxShow {
			c.Action = impl.CuSet
		}
		if c.Action != impl.CuStop {
			c.Value = []int64{0, 1, 1000, random.Int63n(1001)}[random.Intn(4)]
		}
		if c.Action == impl.CuFade {
			c.Length = 1 + random.Int63n(min(40, impl.MaxShow-c.Time))
		}
		list = append(list, c)
	}
	slices.SortFunc(list, orderCues)
	return list
}

// singleCues are valid, with numbers at the ends of the ranges and between them.
func singleCues() []impl.Cue {
	return cuesOf(
		"a 0 b set 0", "a 0 b set 1", "a 0 b set 999", "a 0 b set 1000", "a 1 b set 5", "a 7199999 b set 5", "a 7200000 b set 0", "a 7200000 b set 1000",
		"a 0 b fade 0 1", "a 0 b fade 1000 1", "a 0 b fade 5 2", "a 0 b fade 5 7199999", "a 0 b fade 1000 7200000", "a 1 b fade 5 7199999", "a 5000000 b fade 5 2200000", "a 7199998 b fade 5 2", "a 7199999 b fade 5 1",
		"a 0 b stop", "a 1 b stop", "a 7199999 b stop", "a 7200000 b stop",
		"a 5 a set 5", "z9 5 a0 set 5", "abcdefghij 5 a set 5", "a 5 abcdefghij set 5", "a123456789 123456 z123456789 fade 789 654321",
	)
}

// invalidCues have a field that no cue has, or one that does not go with the others.
func invalidCues() []impl.Cue {
	list := append([]impl.Cue{{}}, cuesOf(
		"a 0 b set 5 1", "a 0 b set 5 -1", "a 0 b set 0 1", "a 7200000 b set 5 1",
		"a 0 b fade 5 0", "a 0 b fade 5 -1", "a 0 b fade 5 7200001", "a 1 b fade 5 7200000", "a 5000000 b fade 5 2200001", "a 7199999 b fade 5 2", "a 7199999 b fade 5 0", "a 7200000 b fade 5 0", "a 7200000 b fade 5 1", "a 7200000 b fade 0 0", "a 7200000 b fade 5 -1",
		"a 0 b stop 0 1", "a 0 b stop 0 -1", "a 0 b stop 1", "a 0 b stop 1000", "a 0 b stop -1", "a 0 b stop 1 1", "a 7200000 b stop 1",
	)...)
	for _, base := range cuesOf("a 5 b set 5", "a 5 b fade 5 5", "a 5 b stop") {
		for _, name := range invalidNames() {
			list = append(list, impl.Cue{Id: name, Time: 5, Length: base.Length, Target: "b", Action: base.Action, Value: base.Value})
			list = append(list, impl.Cue{Id: "a", Time: 5, Length: base.Length, Target: name, Action: base.Action, Value: base.Value})
		}
		for _, n := range []int64{-1, 7200001, -7200000, 8000000, 1 << 32, minInt, minInt + 1, minInt + 7200000, maxInt - 7200000, maxInt} {
			list = append(list, slices.Repeat([]impl.Cue{base}, 4)...)
			others := list[len(list)-4:]
			others[0].Time = n
			others[1].Length = n
			others[2].Time, others[2].Length = n, n
			others[3].Time, others[3].Length = n, impl.MaxShow-n
		}
		for _, n := range []int64{-1, 1001, -1000, 7200000, 1 << 32, minInt, maxInt} {
			list = append(list, base)
			list[len(list)-1].Value = n
		}
		for _, n := range []int64{0, 4, -1, -2, 5, 257, 1<<32 + 1, minInt, maxInt} {
			list = append(list, base)
			list[len(list)-1].Action = n
		}
	}
	return list
}

// validCueLists are lists of none to MaxCues cues.
func validCueLists() [][]impl.Cue {
	lists := [][]impl.Cue{nil, {}, fewCues(), evenCues(31), evenCues(32), cuesOf("a 5 x set 5", "aa 5 x set 5", "b 5 x set 5"), cuesOf("z 5 x set 5", "a 6 x set 5"), cuesOf("a10 5 x set 5", "a9 5 x set 5", "a8 6 x set 5"), cuesOf("a 0 x fade 5 7200000", "b 0 x stop", "c 7200000 x stop")}
	for _, c := range singleCues() {
		lists = append(lists, []impl.Cue{c})
	}
	random := rand.New(rand.NewSource(130))
	for i := range 17 {
		lists = append(lists, randomCues(random, 2*i))
	}
	return lists
}

// invalidCueLists have too many cues, one that is not valid, one that is not at its place, or an Id twice.
func invalidCueLists() [][]impl.Cue {
	lists := [][]impl.Cue{
		evenCues(33), evenCues(100), make([]impl.Cue, 32), make([]impl.Cue, 1000), slices.Repeat(cuesOf("a 5 x set 5"), 32),
		// An Id twice.
		cuesOf("a 5 x set 5", "a 5 x set 5"), cuesOf("a 5 x set 5", "a 6 x set 5"), cuesOf("a 5 x set 5", "a 6 y fade 7 8"), cuesOf("a 5 x set 5", "a 5 y set 6"), cuesOf("a 0 x set 5", "b 5 x set 5", "a 7200000 x set 5"), append(evenCues(31), cueOf("s00 31 sun set 5")), append(evenCues(31), cueOf("s30 31 sun set 5")),
		// Equal Times with Ids that decrease.
		cuesOf("b 5 x set 5", "a 5 x set 5"), cuesOf("b 5 x set 5", "a 5 y set 5"), cuesOf("aa 5 x set 5", "a 5 x set 5"), cuesOf("a9 5 x set 5", "a10 5 x set 5"), cuesOf("a 4 x set 5", "c 5 x set 5", "b 5 x set 5", "d 6 x set 5"),
		// Times that decrease.
		cuesOf("a 5 x set 5", "b 4 x set 5"), cuesOf("b 5 x set 5", "a 4 x set 5"), cuesOf("a 0 x set 5", "b 7200000 x set 5", "c 7199999 x set 5"), cuesOf("a 1 x set 5", "b 2 x set 5", "c 0 x set 5"), cuesOf("a 9 x set 5", "b 10 x set 5", "c 9 x set 5"),
	}
	for _, c := range invalidCues() {
		lists = append(lists, []impl.Cue{c}, append(cuesOf("aa 0 sun set 5"), c), []impl.Cue{c, cueOf("zz 7200000 sun set 5")}, slices.Concat(evenCues(30), []impl.Cue{c}, cuesOf("zz 7200000 sun set 5")))
	}
	return lists
}

// noShowTimes are numbers that are not from 0 to MaxShow.
func noShowTimes() []int64 {
	return []int64{-1, 7200001, -7200000, 14400000, 1 << 32, 1 << 62, minInt, minInt + 1, maxInt - 1, maxInt}
}

// firstCues shows the beginning of a list.
func firstCues(list []impl.Cue) string {
	return fmt.Sprintf("%d cues from %q on", len(list), fmt.Sprint(list[:min(len(list), 3)]))
}

// listCalls are those of all functions that take only a list and return a code.
func listCalls(list []impl.Cue) []horizonCall {
	arguments := fmt.Sprintf("(%s)", firstCues(list))
	return []horizonCall{
		{"TargetsOf" + arguments, codedMany(impl.TargetsOf(list))}, {"ClashesOf" + arguments, codedMany(impl.ClashesOf(list))}, {"ShowEnd" + arguments, coded(impl.ShowEnd(list))},
	}
}

// nameCalls are those of all functions that take a list and an Id only, or a cue.
func nameCalls(list []impl.Cue, c impl.Cue) []horizonCall {
	arguments := fmt.Sprintf("(%s, %v)", firstCues(list), c)
	return []horizonCall{
		{"CueNamed" + arguments, coded(impl.CueNamed(list, c.Id))}, {"AddCue" + arguments, codedMany(impl.AddCue(list, c))}, {"DropCue" + arguments, codedMany(impl.DropCue(list, c.Id))},
	}
}

// timeCalls are those of all functions that take a list and times.
func timeCalls(list []impl.Cue, name string, from, until int64) []horizonCall {
	arguments := fmt.Sprintf("(%s, %q, %d, %d)", firstCues(list), name, from, until)
	return []horizonCall{
		{"MoveCue" + arguments, codedMany(impl.MoveCue(list, name, from))}, {"LevelAt" + arguments, coded(impl.LevelAt(list, name, from))},
		{"InsertTime" + arguments, codedMany(impl.InsertTime(list, from, until))}, {"CuesBetween" + arguments, codedMany(impl.CuesBetween(list, from, until))},
	}
}

// Promise 1, for the functions of chapter 13.

func TestP1CuesReturnEqualResults(t *testing.T) {
	numbers := slices.Concat(edgeNumbers(), noShowTimes(), []int64{5, 30, 999, 1000, 1001, 7199999, 7200000, 7200002})
	lists := append(validCueLists(), invalidCueLists()...)
	for i, list := range lists {
		for k := range 8 {
			n, o, p := numbers[(5*i+11*k)%len(numbers)], numbers[(3*i+7*k)%len(numbers)], numbers[(i+13*k)%len(numbers)]
			checkRepeats(t, fmt.Sprintf("functions of %s and the numbers %d, %d, %d", firstCues(list), n, o, p), func() []any {
				results := []any{impl.ValidCues(list), impl.SameCues(list, list), impl.SameCues(list, lists[(7*i+k)%len(lists)])}
				for _, c := range []impl.Cue{cueOf("m 30 sun set 5"), {Id: "s07", Time: n, Length: o, Target: "sun", Action: p, Value: 5}, {Id: "a", Time: n, Length: p, Target: "sun", Action: 2, Value: o}} {
					calls := slices.Concat(listCalls(list), nameCalls(list, c), timeCalls(list, c.Id, n, o), timeCalls(list, c.Target, 0, p))
					results = append(append(results, resultsOf(calls...)...), impl.ValidCue(c), impl.CueText(c))
				}
				return results
			})
		}
	}
	for _, s := range edgeTexts() {
		for _, text := range []string{s, "a 0 sun " + s, s + " stop", "a " + s + " sun stop", "a 0 sun set " + s} {
			checkRepeats(t, fmt.Sprintf("functions of the text %.60q", text), func() []any {
				c, ok := impl.ReadCue(text)
				calls := append(nameCalls(fewCues(), impl.Cue{Id: text, Target: text, Action: impl.CuSet}), timeCalls(fewCues(), text, 5, 5)...)
				return append(resultsOf(calls...), c, ok, impl.CueText(impl.Cue{Id: text, Target: text, Action: impl.CuSet}))
			})
		}
	}
}

func TestP1CuesKeepTheirArguments(t *testing.T) {
	rest := slices.Repeat(cuesOf("x 7 y fade 7 7"), 40)
	lists := append(validCueLists(), invalidCueLists()...)
	for i, list := range lists {
		other := lists[(i+1)%len(lists)]
		checkListKept(t, "functions of "+firstCues(list), list, rest, func(l []impl.Cue) {
			checkListKept(t, "SameCues with "+firstCues(other), other, rest, func(o []impl.Cue) { impl.SameCues(l, o) })
			impl.ValidCues(l)
			listCalls(l)
			for _, c := range slices.Concat(l, cuesOf("a 0 sun set 5", "m 30 sun fade 5 5", "zz 7200000 sun stop")) {
				nameCalls(l, c)
				for _, time := range []int64{-1, 0, 30, 7200000} {
					timeCalls(l, c.Id, time, 5)
				}
			}
		})
	}
}

func TestP1CueListsHaveMemoryOfTheirOwn(t *testing.T) {
	other := cueOf("over 8888 over fade 888 88")
	for _, list := range validCueLists() {
		checkCues := func(call string, use func([]impl.Cue) ([]impl.Cue, int64)) {
			if _, code := use(list); code != impl.OK {
				return
			}
			checkMadeOf(t, call, other, [][]impl.Cue{list}, func(lists [][]impl.Cue) []impl.Cue {
				cues, code := use(lists[0])
				return withoutCode(t, cues, code)
			})
		}
		for _, id := range []string{"a", "m", "s00a", "zz"} {
			for _, time := range []int64{0, 30, impl.MaxShow} {
				checkCues("AddCue", func(l []impl.Cue) ([]impl.Cue, int64) {
					return impl.AddCue(l, cueOf(fmt.Sprintf("%s %d sun set 5", id, time)))
				})
			}
		}
		for _, c := range list {
			checkCues("DropCue", func(l []impl.Cue) ([]impl.Cue, int64) { return impl.DropCue(l, c.Id) })
			for _, time := range []int64{0, c.Time, 30, 7000000} {
				checkCues("MoveCue", func(l []impl.Cue) ([]impl.Cue, int64) { return impl.MoveCue(l, c.Id, time) })
			}
		}
		for _, by := range []int64{0, 1} {
			for _, from := range []int64{0, 30, impl.MaxShow} {
				checkCues("InsertTime", func(l []impl.Cue) ([]impl.Cue, int64) { return impl.InsertTime(l, from, by) })
			}
		}
	}
}

func TestP1IndicesOfCuesHaveMemoryOfTheirOwn(t *testing.T) {
	for _, list := range validCueLists() {
		whole := slices.Concat(list, slices.Repeat(cuesOf("x 7 y fade 7 7"), 40))
		l, before := whole[:len(list)], slices.Clone(whole)
		kept := func() bool { return slices.Equal(whole, before) }
		checkNewList(t, "TargetsOf", "over", func() []string {
			targets, code := impl.TargetsOf(l)
			return withoutCode(t, targets, code)
		}, kept)
		for _, from := range []int64{0, 30, impl.MaxShow} {
			checkNewList(t, "CuesBetween", -7, func() []int64 {
				indices, code := impl.CuesBetween(l, from, impl.MaxShow+1)
				return withoutCode(t, indices, code)
			}, kept)
		}
		checkNewLines(t, "ClashesOf", func() [][]int64 {
			pairs, code := impl.ClashesOf(l)
			return withoutCode(t, pairs, code)
		}, kept)
	}
}

// Promise 14: valid cues.

func TestP14CueConstants(t *testing.T) {
	constants := []int64{impl.CuSet, impl.CuFade, impl.CuStop, impl.MaxShow, impl.MaxLevel, impl.MaxCues}
	checkResult(t, "constants", constants, []int64{1, 2, 3, 7200000, 1000, 32})
}

func TestP14ValidCue(t *testing.T) {
	for _, c := range slices.Concat(singleCues(), fewCues(), evenCues(40)) {
		checkResult(t, fmt.Sprintf("ValidCue(%v)", c), impl.ValidCue(c), true)
	}
	for _, c := range invalidCues() {
		checkResult(t, fmt.Sprintf("ValidCue(%q)", fmt.Sprint(c)), impl.ValidCue(c), false)
	}
}

func TestP14ValidCues(t *testing.T) {
	for _, list := range validCueLists() {
		checkResult(t, fmt.Sprintf("ValidCues(%v)", list), impl.ValidCues(list), true)
	}
	for count := range 40 {
		checkResult(t, fmt.Sprintf("ValidCues of %d cues", count), impl.ValidCues(evenCues(count)), count <= 32)
	}
	for _, list := range invalidCueLists() {
		checkResult(t, fmt.Sprintf("ValidCues(%.400q)", fmt.Sprint(list)), impl.ValidCues(list), false)
	}
}

// otherCues are cues that differ from c in one field each.
func otherCues(c impl.Cue) []impl.Cue {
	list := slices.Repeat([]impl.Cue{c}, 6)
	list[0].Id += "x"
	list[1].Time++
	list[2].Length++
	list[3].Target += "x"
	list[4].Action++
	list[5].Value++
	return list
}

func TestP14SameCues(t *testing.T) {
	lists := slices.Concat(validCueLists(), invalidCueLists(), [][]impl.Cue{invalidCues(), cuesOf("b 5 x set 5", "a 5 x set 5", "a 5 x set 5")})
	sameForm[impl.Cue]{"SameCues", impl.SameCues, otherCues}.checkLists(t, lists)
}

func TestP14InvalidCuesAreRefusedFirst(t *testing.T) {
	for _, list := range invalidCueLists() {
		checkRefused(t, listCalls(list), impl.ErrInvalid)
		for _, c := range append(cuesOf("q 30 sun set 5"), list[0], list[len(list)-1], impl.Cue{}) {
			checkRefused(t, nameCalls(list, c), impl.ErrInvalid)
			for _, n := range []int64{0, 5, 7200000, -1, 7200001, minInt, maxInt} {
				checkRefused(t, slices.Concat(timeCalls(list, c.Id, n, 5), timeCalls(list, c.Target, 0, n), timeCalls(list, "", n, n-1)), impl.ErrInvalid)
			}
		}
	}
}

func TestP14OtherTimesAreRefused(t *testing.T) {
	for _, list := range validCueLists() {
		for _, n := range noShowTimes() {
			// These come before an Id that is missing, and before a list that would not be valid.
			for _, name := range []string{"a", "s07", "sun", "missing", "", "-"} {
				checkRefused(t, slices.Concat(timeCalls(list, name, n, 5), timeCalls(list, name, n, n), timeCalls(list, name, n, 7200001)), impl.ErrRange)
			}
			checkResult(t, fmt.Sprintf("InsertTime(%v, 0, %d)", list, n), codedMany(impl.InsertTime(list, 0, n)), codedMany[impl.Cue](nil, impl.ErrRange))
			checkResult(t, fmt.Sprintf("InsertTime(%v, 7200000, %d)", list, n), codedMany(impl.InsertTime(list, 7200000, n)), codedMany[impl.Cue](nil, impl.ErrRange))
		}
	}
}

// Promise 14: lists.

// placeOf returns the index of a cue by its Id; -1 if there is none.
func placeOf(list []impl.Cue, id string) int {
	return slices.IndexFunc(list, func(c impl.Cue) bool { return c.Id == id })
}

func TestP14CueNamed(t *testing.T) {
	for _, list := range validCueLists() {
		for i, c := range list {
			checkResult(t, fmt.Sprintf("CueNamed(%v, %q)", list, c.Id), coded(impl.CueNamed(list, c.Id)), coded(int64(i), impl.OK))
		}
		for _, id := range append(invalidNames(), "missing", "sun", "x", "s", "s0", "s000", "hall") {
			checkResult(t, fmt.Sprintf("CueNamed(%v, %q)", list, id), coded(impl.CueNamed(list, id)), coded(0, impl.ErrNotFound))
		}
	}
}

func TestP14AddCueCases(t *testing.T) {
	few, same := fewCues(), cuesOf("b 5 x set 1", "d 5 x set 2", "f 5 x set 3")
	cases := []struct {
		list []impl.Cue
		c    string
		at   int
	}{
		{nil, "a 5 x set 5", 0}, {[]impl.Cue{}, "a 7200000 x stop", 0},
		{few, "aa 0 sun set 5", 1}, {few, "x 1 sun set 5", 1}, {few, "aa 999 sun set 5", 1}, {few, "aa 1000 sun set 5", 1}, {few, "b0 1000 sun set 5", 2}, {few, "c0 1000 x fade 5 5", 2}, {few, "e 1000 sun set 5", 3}, {few, "aa 1001 sun set 5", 3}, {few, "b0 1200 sun stop", 3}, {few, "c0 1200 sun stop", 4}, {few, "aa 1201 sun stop", 4}, {few, "aa 7200000 sun stop", 4},
		{same, "a 5 x set 5", 0}, {same, "c 5 x set 5", 1}, {same, "e 5 x set 5", 2}, {same, "g 5 x set 5", 3}, {same, "g 4 x set 5", 0}, {same, "a 6 x set 5", 3}, {same, "a 0 x fade 5 7200000", 0},
		{evenCues(31), "a 5 x set 5", 5}, {evenCues(31), "z 5 x set 5", 6}, {evenCues(31), "z 30 x set 5", 31}, {evenCues(31), "a 0 x set 5", 0},
	}
	for _, c := range cases {
		want := codedMany(slices.Concat(c.list[:c.at], cuesOf(c.c), c.list[c.at:]), impl.OK)
		checkResult(t, fmt.Sprintf("AddCue(%v, %s)", c.list, c.c), codedMany(impl.AddCue(c.list, cueOf(c.c))), want)
	}
}

func TestP14AddCueRefuses(t *testing.T) {
	refused := func(code int64) codedList[impl.Cue] { return codedMany[impl.Cue](nil, code) }
	for _, list := range append(validCueLists(), evenCues(31), evenCues(32)) {
		for _, c := range list {
			for _, same := range append(cuesOf(c.Id+" 7000000 new set 5", c.Id+" 0 new stop"), c) {
				checkResult(t, fmt.Sprintf("AddCue(%v, %v)", list, same), codedMany(impl.AddCue(list, same)), refused(impl.ErrExists))
			}
			broken := c
			broken.Value = 1001
			checkResult(t, fmt.Sprintf("AddCue(%v, %v)", list, broken), codedMany(impl.AddCue(list, broken)), refused(impl.ErrInvalid))
		}
		for _, c := range invalidCues() {
			checkResult(t, fmt.Sprintf("AddCue(%v, %q)", list, fmt.Sprint(c)), codedMany(impl.AddCue(list, c)), refused(impl.ErrInvalid))
		}
		for _, c := range cuesOf("new 0 x set 5", "new 16 x fade 5 5", "new 7200000 x stop") {
			if len(list) == 32 {
				checkResult(t, fmt.Sprintf("AddCue(%v, %v)", list, c), codedMany(impl.AddCue(list, c)), refused(impl.ErrFull))
			}
		}
	}
}

func TestP14AddCuesUpToTheLimit(t *testing.T) {
	random := rand.New(rand.NewSource(131))
	for range 100 {
		wanted, list := randomCues(random, 32), []impl.Cue{}
		for _, i := range random.Perm(32) {
			longer, code := impl.AddCue(list, wanted[i])
			checkResult(t, fmt.Sprintf("AddCue(%v, %v)", list, wanted[i]), code, impl.OK)
			checkResult(t, fmt.Sprintf("ValidCues(%v)", longer), impl.ValidCues(longer), true)
			list = longer
		}
		checkResult(t, "cues that were added one by one", list, wanted)
	}
}

func TestP14DropCue(t *testing.T) {
	few := fewCues()
	checkResult(t, "DropCue(few, b)", codedMany(impl.DropCue(few, "b")), codedMany([]impl.Cue{few[0], few[2], few[3]}, impl.OK))
	checkResult(t, "DropCue of the only cue", codedMany(impl.DropCue(few[:1], "a")), codedMany[impl.Cue](nil, impl.OK))
	for _, list := range validCueLists() {
		for i, c := range list {
			call := fmt.Sprintf("DropCue(%v, %q)", list, c.Id)
			shorter, code := impl.DropCue(list, c.Id)
			checkResult(t, call, codedMany(shorter, code), codedMany(slices.Concat(list[:i], list[i+1:]), impl.OK))
			checkResult(t, "AddCue behind "+call, codedMany(impl.AddCue(shorter, c)), codedMany(list, impl.OK))
			checkResult(t, "DropCue behind "+call, codedMany(impl.DropCue(shorter, c.Id)), codedMany[impl.Cue](nil, impl.ErrNotFound))
		}
		for _, id := range append(invalidNames(), "missing", "sun", "s", "s000") {
			checkResult(t, fmt.Sprintf("DropCue(%v, %q)", list, id), codedMany(impl.DropCue(list, id)), codedMany[impl.Cue](nil, impl.ErrNotFound))
		}
	}
}

func TestP14MoveCueCases(t *testing.T) {
	few, fades := fewCues(), cuesOf("a 0 x fade 5 7200000", "b 5 x fade 5 100", "c 5 y set 5", "d 7200000 y set 5")
	refused := func(code int64) codedList[impl.Cue] { return codedMany[impl.Cue](nil, code) }
	moved := func(texts ...string) codedList[impl.Cue] { return codedMany(cuesOf(texts...), impl.OK) }
	cases := []struct {
		list []impl.Cue
		id   string
		time int64
		want codedList[impl.Cue]
	}{
		{few, "c", 500, moved("a 0 sun set 100", "c 500 sun stop", "b 1000 sun fade 600 500", "d 1000 hall set 40")}, {few, "a", 5000, moved("b 1000 sun fade 600 500", "d 1000 hall set 40", "c 1200 sun stop", "a 5000 sun set 100")},
		// To a Time that other cues have: behind those with lesser Ids, before those with greater ones.
		{few, "a", 1000, moved("a 1000 sun set 100", "b 1000 sun fade 600 500", "d 1000 hall set 40", "c 1200 sun stop")}, {few, "c", 1000, moved("a 0 sun set 100", "b 1000 sun fade 600 500", "c 1000 sun stop", "d 1000 hall set 40")}, {few, "d", 1200, moved("a 0 sun set 100", "b 1000 sun fade 600 500", "c 1200 sun stop", "d 1200 hall set 40")}, {few, "b", 1200, moved("a 0 sun set 100", "d 1000 hall set 40", "b 1200 sun fade 600 500", "c 1200 sun stop")}, {few, "b", 0, moved("a 0 sun set 100", "b 0 sun fade 600 500", "d 1000 hall set 40", "c 1200 sun stop")},
		{few, "c", 0, moved("a 0 sun set 100", "c 0 sun stop", "b 1000 sun fade 600 500", "d 1000 hall set 40")}, {few, "a", 7200000, moved("b 1000 sun fade 600 500", "d 1000 hall set 40", "c 1200 sun stop", "a 7200000 sun set 100")}, {few, "c", 7200000, moved("a 0 sun set 100", "b 1000 sun fade 600 500", "d 1000 hall set 40", "c 7200000 sun stop")},
		{few, "b", 7199500, moved("a 0 sun set 100", "d 1000 hall set 40", "c 1200 sun stop", "b 7199500 sun fade 600 500")}, {few, "b", 7199501, refused(impl.ErrState)}, {few, "b", 7200000, refused(impl.ErrState)}, {few, "b", 7200001, refused(impl.ErrRange)}, {few, "b", -1, refused(impl.ErrRange)},
		{fades, "a", 0, codedMany(fades, impl.OK)}, {fades, "a", 1, refused(impl.ErrState)}, {fades, "a", 7200000, refused(impl.ErrState)}, {fades, "b", 7199900, moved("a 0 x fade 5 7200000", "c 5 y set 5", "b 7199900 x fade 5 100", "d 7200000 y set 5")}, {fades, "b", 7199901, refused(impl.ErrState)}, {fades, "c", 7200000, moved("a 0 x fade 5 7200000", "b 5 x fade 5 100", "c 7200000 y set 5", "d 7200000 y set 5")}, {fades, "d", 5, moved("a 0 x fade 5 7200000", "b 5 x fade 5 100", "c 5 y set 5", "d 5 y set 5")},
		{few, "e", 500, refused(impl.ErrNotFound)}, {few, "", 0, refused(impl.ErrNotFound)}, {few, "sun", 7200000, refused(impl.ErrNotFound)}, {nil, "a", 0, refused(impl.ErrNotFound)}, {few, "e", -1, refused(impl.ErrRange)}, {few, "e", 7200001, refused(impl.ErrRange)}, {nil, "a", -1, refused(impl.ErrRange)},
	}
	for _, c := range cases {
		checkResult(t, fmt.Sprintf("MoveCue(%v, %q, %d)", c.list, c.id, c.time), codedMany(impl.MoveCue(c.list, c.id, c.time)), c.want)
	}
}

func TestP14MoveCueEverywhere(t *testing.T) {
	random := rand.New(rand.NewSource(132))
	for _, list := range validCueLists() {
		for i, c := range list {
			checkResult(t, fmt.Sprintf("MoveCue(%v, %q) to its Time", list, c.Id), codedMany(impl.MoveCue(list, c.Id, c.Time)), codedMany(list, impl.OK))
			for _, time := range []int64{0, random.Int63n(60), list[random.Intn(len(list))].Time, 7199960 + random.Int63n(41), 7200000} {
				want := slices.Clone(list)
				want[i].Time = time
				slices.SortFunc(want, orderCues)
				code := int64(impl.OK)
				if c.Action == impl.CuFade && time+c.Length > 7200000 {
					want, code = nil, impl.ErrState
				}
				checkResult(t, fmt.Sprintf("MoveCue(%v, %q, %d)", list, c.Id, time), codedMany(impl.MoveCue(list, c.Id, time)), codedMany(want, code))
			}
		}
	}
}

func TestP14InsertTimeCases(t *testing.T) {
	few, late, fades := fewCues(), cuesOf("a 5 x set 5", "b 7000000 x set 5"), cuesOf("a 5 x set 5", "b 5000000 x fade 5 2000000", "c 5000001 x stop")
	refused := func(code int64) codedList[impl.Cue] { return codedMany[impl.Cue](nil, code) }
	moved := func(texts ...string) codedList[impl.Cue] { return codedMany(cuesOf(texts...), impl.OK) }
	cases := []struct {
		list     []impl.Cue
		from, by int64
		want     codedList[impl.Cue]
	}{
		{few, 1000, 250, moved("a 0 sun set 100", "b 1250 sun fade 600 500", "d 1250 hall set 40", "c 1450 sun stop")}, {few, 999, 1, moved("a 0 sun set 100", "b 1001 sun fade 600 500", "d 1001 hall set 40", "c 1201 sun stop")}, {few, 1001, 250, moved("a 0 sun set 100", "b 1000 sun fade 600 500", "d 1000 hall set 40", "c 1450 sun stop")}, {few, 1200, 250, moved("a 0 sun set 100", "b 1000 sun fade 600 500", "d 1000 hall set 40", "c 1450 sun stop")}, {few, 1201, 7200000, codedMany(few, impl.OK)}, {few, 7200000, 7200000, codedMany(few, impl.OK)},
		{few, 0, 10, moved("a 10 sun set 100", "b 1010 sun fade 600 500", "d 1010 hall set 40", "c 1210 sun stop")}, {few, 1, 10, moved("a 0 sun set 100", "b 1010 sun fade 600 500", "d 1010 hall set 40", "c 1210 sun stop")}, {few, 0, 0, codedMany(few, impl.OK)}, {few, 1000, 0, codedMany(few, impl.OK)}, {few, 7200000, 0, codedMany(few, impl.OK)},
		// As much as the last cue can bear, and one more.
		{late, 0, 200000, moved("a 200005 x set 5", "b 7200000 x set 5")}, {late, 0, 200001, refused(impl.ErrState)}, {late, 7000000, 200000, moved("a 5 x set 5", "b 7200000 x set 5")}, {late, 7000000, 200001, refused(impl.ErrState)}, {late, 7000001, 200001, codedMany(late, impl.OK)}, {late, 0, 7200000, refused(impl.ErrState)},
		// The fade ends behind the last cue.
		{fades, 0, 200000, moved("a 200005 x set 5", "b 5200000 x fade 5 2000000", "c 5200001 x stop")}, {fades, 0, 200001, refused(impl.ErrState)}, {fades, 5000000, 200000, moved("a 5 x set 5", "b 5200000 x fade 5 2000000", "c 5200001 x stop")}, {fades, 5000000, 200001, refused(impl.ErrState)}, {fades, 5000001, 200001, moved("a 5 x set 5", "b 5000000 x fade 5 2000000", "c 5200002 x stop")}, {fades, 5000001, 2199999, moved("a 5 x set 5", "b 5000000 x fade 5 2000000", "c 7200000 x stop")}, {fades, 5000001, 2200000, refused(impl.ErrState)},
		{cuesOf("a 7200000 x stop"), 7200000, 0, moved("a 7200000 x stop")}, {cuesOf("a 7200000 x stop"), 7200000, 1, refused(impl.ErrState)}, {cuesOf("a 0 x stop"), 0, 7200000, moved("a 7200000 x stop")}, {cuesOf("a 0 x fade 5 1"), 0, 7200000, refused(impl.ErrState)}, {cuesOf("a 0 x fade 5 1"), 0, 7199999, moved("a 7199999 x fade 5 1")}, {nil, 0, 7200000, codedMany[impl.Cue](nil, impl.OK)},
		{few, -1, 0, refused(impl.ErrRange)}, {few, 0, -1, refused(impl.ErrRange)}, {few, 7200001, 0, refused(impl.ErrRange)}, {few, 0, 7200001, refused(impl.ErrRange)}, {few, -1, 7200000, refused(impl.ErrRange)}, {nil, -1, -1, refused(impl.ErrRange)}, {few, 7200000, 7200001, refused(impl.ErrRange)},
	}
	for _, c := range cases {
		checkResult(t, fmt.Sprintf("InsertTime(%v, %d, %d)", c.list, c.from, c.by), codedMany(impl.InsertTime(c.list, c.from, c.by)), c.want)
	}
}

func TestP14InsertTimeEverywhere(t *testing.T) {
	random := rand.New(rand.NewSource(133))
	for _, list := range slices.Repeat(validCueLists(), 10) {
		from, by := random.Int63n(70), []int64{random.Int63n(30), random.Int63n(7200001), 7199900 + random.Int63n(101)}[random.Intn(3)]
		if len(list) > 0 && random.Intn(2) == 0 {
			from = list[random.Intn(len(list))].Time
		}
		want, code := slices.Clone(list), int64(impl.OK)
		for i := range want {
			if want[i].Time >= from {
				want[i].Time += by
			}
		}
		if slices.ContainsFunc(want, func(c impl.Cue) bool { return c.Time+c.Length > 7200000 }) {
			want, code = nil, impl.ErrState
		}
		checkResult(t, fmt.Sprintf("InsertTime(%v, %d, %d)", list, from, by), codedMany(impl.InsertTime(list, from, by)), codedMany(want, code))
	}
}

func TestP14TargetsOf(t *testing.T) {
	cases := []struct{ list, want string }{
		{"", ""}, {"sun", "sun"}, {"sun sun sun sun", "sun"}, {"sun moon hall", "hall moon sun"}, {"hall moon sun", "hall moon sun"}, {"sun hall sun hall sun", "hall sun"}, {"b a9 a10 aa a b", "a a10 a9 aa b"}, {"z y x w v u t s r q p o n m l k j i h g f e d c b a z9 z8 z7 z6 z5 z4", "a b c d e f g h i j k l m n o p q r s t u v w x y z z4 z5 z6 z7 z8 z9"},
	}
	for _, c := range cases {
		list := []impl.Cue{}
		for i, target := range strings.Fields(c.list) {
			list = append(list, cueOf(fmt.Sprintf("%s %d %s set 5", numberedName(i), i/2, target)))
		}
		checkResult(t, fmt.Sprintf("TargetsOf(%v)", list), codedMany(impl.TargetsOf(list)), codedMany(strings.Fields(c.want), impl.OK))
	}
	for _, list := range validCueLists() {
		targets := []string{}
		for _, c := range list {
			targets = append(targets, c.Target)
		}
		slices.Sort(targets)
		checkResult(t, fmt.Sprintf("TargetsOf(%v)", list), codedMany(impl.TargetsOf(list)), codedMany(slices.Compact(targets), impl.OK))
	}
}

func TestP14CuesBetweenCases(t *testing.T) {
	few, ends := fewCues(), cuesOf("a 0 x set 5", "b 0 x set 5", "c 7200000 x set 5", "d 7200000 x stop")
	refused := codedMany[int64](nil, impl.ErrRange)
	found := func(indices ...int64) codedList[int64] { return codedMany(indices, impl.OK) }
	cases := []struct {
		list        []impl.Cue
		from, until int64
		want        codedList[int64]
	}{
		{few, 1000, 1200, found(1, 2)}, {few, 1000, 1201, found(1, 2, 3)}, {few, 1001, 1201, found(3)}, {few, 999, 1000, found()}, {few, 999, 1001, found(1, 2)}, {few, 0, 1, found(0)}, {few, 0, 1000, found(0)}, {few, 1, 1000, found()}, {few, 1201, 7200001, found()}, {few, 0, 7200001, found(0, 1, 2, 3)},
		{few, 0, 0, found()}, {few, 1000, 1000, found()}, {few, 7200000, 7200000, found()}, {ends, 7200000, 7200000, found()}, {ends, 7200000, 7200001, found(2, 3)}, {ends, 0, 7200000, found(0, 1)}, {ends, 0, 1, found(0, 1)}, {ends, 1, 7200001, found(2, 3)}, {ends, 1, 7200000, found()}, {ends, 0, 7200001, found(0, 1, 2, 3)}, {nil, 0, 7200001, found()}, {nil, 0, 0, found()},
		{few, 1000, 999, refused}, {few, 0, -1, refused}, {few, 1, 0, refused}, {few, 7200000, 7199999, refused}, {few, 0, 7200002, refused}, {few, 7200000, 7200002, refused}, {few, -1, 0, refused}, {few, -1, -1, refused}, {few, -1, 7200001, refused}, {few, 7200001, 7200001, refused}, {few, 7200001, 7200002, refused}, {nil, 1, 0, refused}, {few, 0, minInt, refused}, {few, 0, maxInt, refused}, {few, minInt, maxInt, refused}, {few, maxInt, minInt, refused}, {few, minInt, 5, refused}, {few, maxInt, maxInt, refused},
	}
	for _, c := range cases {
		checkResult(t, fmt.Sprintf("CuesBetween(%v, %d, %d)", c.list, c.from, c.until), codedMany(impl.CuesBetween(c.list, c.from, c.until)), c.want)
	}
}

func TestP14CuesBetweenEverywhere(t *testing.T) {
	for _, list := range validCueLists() {
		times, shown := []int64{0, 1, 7200000, 7200001}, fmt.Sprint(list)
		for _, c := range list {
			times = append(times, max(c.Time-1, 0), c.Time, c.Time+1)
		}
		for _, from := range times {
			for _, until := range times {
				want := codedMany[int64](nil, impl.ErrRange)
				if from <= until && from <= 7200000 {
					inside := slices.DeleteFunc(allIndices(len(list)), func(i int64) bool { return list[i].Time < from || list[i].Time >= until })
					want = codedMany(inside, impl.OK)
				}
				checkResult(t, fmt.Sprintf("CuesBetween(%s, %d, %d)", shown, from, until), codedMany(impl.CuesBetween(list, from, until)), want)
			}
		}
	}
}

func TestP14ShowEnd(t *testing.T) {
	cases := []struct {
		list []impl.Cue
		want int64
	}{
		{nil, 0}, {[]impl.Cue{}, 0}, {fewCues(), 1500}, {cuesOf("a 0 x set 5"), 0}, {cuesOf("a 0 x set 5", "b 0 x stop", "c 0 y set 1000"), 0}, {cuesOf("a 0 x fade 5 1"), 1}, {cuesOf("a 7200000 x stop"), 7200000}, {cuesOf("a 0 x fade 5 7200000", "b 1 x stop"), 7200000}, {cuesOf("a 5 x fade 5 10", "b 15 x set 5"), 15}, {cuesOf("a 5 x fade 5 10", "b 16 x set 5"), 16}, {cuesOf("a 5 x fade 5 10", "b 14 x set 5"), 15}, {cuesOf("a 5 x fade 5 10", "b 6 y fade 5 8"), 15}, {cuesOf("a 5 x fade 5 10", "b 6 y fade 5 10"), 16}, {evenCues(32), 31},
	}
	for _, c := range cases {
		checkResult(t, fmt.Sprintf("ShowEnd(%v)", c.list), coded(impl.ShowEnd(c.list)), coded(c.want, impl.OK))
	}
	for _, list := range validCueLists() {
		ends := []int64{0}
		for _, c := range list {
			ends = append(ends, c.Time+c.Length)
		}
		checkResult(t, fmt.Sprintf("ShowEnd(%v)", list), coded(impl.ShowEnd(list)), coded(slices.Max(ends), impl.OK))
	}
}

// Promise 14: clashes.

func TestP14ClashesOfCases(t *testing.T) {
	cases := []struct {
		list []impl.Cue
		want [][]int64
	}{
		{nil, nil}, {[]impl.Cue{}, nil}, {cuesOf("a 0 x fade 5 7200000"), nil}, {fewCues(), [][]int64{{1, 3}}},
		// At the same Time, with all actions.
		{cuesOf("a 5 x set 5", "b 5 x set 5"), [][]int64{{0, 1}}}, {cuesOf("a 5 x stop", "b 5 x stop"), [][]int64{{0, 1}}}, {cuesOf("a 5 x fade 5 1", "b 5 x stop"), [][]int64{{0, 1}}}, {cuesOf("a 5 x set 5", "b 5 x fade 5 1"), [][]int64{{0, 1}}}, {cuesOf("a 0 x set 5", "b 0 x set 5", "c 0 x set 5"), [][]int64{{0, 1}, {0, 2}, {1, 2}}}, {cuesOf("a 7200000 x stop", "b 7200000 x set 5"), [][]int64{{0, 1}}},
		{cuesOf("a 5 x set 5", "b 6 x set 5"), nil}, {cuesOf("a 5 x stop", "b 6 x stop"), nil}, {cuesOf("a 5 x set 5", "b 5 y set 5"), nil}, {cuesOf("a 5 x fade 5 100", "b 5 y fade 5 100"), nil}, {cuesOf("a 5 x set 5", "b 5 y set 5", "c 5 x set 5"), [][]int64{{0, 2}}},
		// At the end of a fade, and one before it.
		{cuesOf("a 5 x fade 5 10", "b 15 x set 5"), nil}, {cuesOf("a 5 x fade 5 10", "b 14 x set 5"), [][]int64{{0, 1}}}, {cuesOf("a 5 x fade 5 10", "b 16 x set 5"), nil}, {cuesOf("a 5 x fade 5 10", "b 15 x fade 5 10", "c 25 x stop"), nil}, {cuesOf("a 5 x fade 5 1", "b 6 x stop"), nil}, {cuesOf("a 0 x fade 5 7200000", "b 7200000 x stop"), nil}, {cuesOf("a 0 x fade 5 7200000", "b 7199999 x stop"), [][]int64{{0, 1}}}, {cuesOf("a 5 x set 5", "b 6 x fade 5 10"), nil},
		// Fades within each other, and a chain.
		{cuesOf("a 0 x fade 5 100", "b 10 x fade 5 80", "c 20 x fade 5 60"), [][]int64{{0, 1}, {0, 2}, {1, 2}}}, {cuesOf("a 0 x fade 5 100", "b 10 x fade 5 10", "c 20 x fade 5 10", "d 100 x stop"), [][]int64{{0, 1}, {0, 2}}}, {cuesOf("a 0 x fade 5 11", "b 10 x fade 5 11", "c 20 x fade 5 11", "d 30 x fade 5 11"), [][]int64{{0, 1}, {1, 2}, {2, 3}}}, {cuesOf("a 0 x fade 5 11", "b 5 y fade 5 100", "c 10 x stop", "d 20 y stop", "e 30 x stop"), [][]int64{{0, 2}, {1, 3}}}, {cuesOf("a 0 x fade 5 100", "b 1 y fade 5 100", "c 2 x stop", "d 2 y stop", "e 2 z stop", "f 50 x stop"), [][]int64{{0, 2}, {0, 5}, {1, 3}}},
	}
	for _, c := range cases {
		checkResult(t, fmt.Sprintf("ClashesOf(%v)", c.list), codedMany(impl.ClashesOf(c.list)), codedMany(c.want, impl.OK))
	}
	all := [][]int64{}
	for i := range int64(32) {
		for k := i + 1; k < 32; k++ {
			all = append(all, []int64{i, k})
		}
	}
	full := evenCues(32)
	checkResult(t, "ClashesOf cues one behind the other", codedMany(impl.ClashesOf(full)), codedMany[[]int64](nil, impl.OK))
	for i := range full {
		full[i].Time = 7
	}
	checkResult(t, "ClashesOf cues at one time", codedMany(impl.ClashesOf(full)), codedMany(all, impl.OK))
}

// drives reports whether a cue drives its target at a time.
func drives(c impl.Cue, time int64) bool {
	return time == c.Time || time > c.Time && time < c.Time+c.Length
}

func TestP14CuesClashExactlyIfTheyDriveATargetAtTheSameTime(t *testing.T) {
	for _, list := range slices.Concat(validCueLists(), randomCueLists(134, 300)) {
		pairs := [][]int64{}
		for i := range list {
			for k := i + 1; k < len(list); k++ {
				// If two cues drive a target at the same time at all, they do when the later one begins.
				if list[i].Target == list[k].Target && drives(list[i], list[k].Time) {
					pairs = append(pairs, []int64{int64(i), int64(k)})
				}
			}
		}
		checkResult(t, fmt.Sprintf("ClashesOf(%v)", list), codedMany(impl.ClashesOf(list)), codedMany(pairs, impl.OK))
	}
}

func randomCueLists(seed int64, count int) [][]impl.Cue {
	random, lists := rand.New(rand.NewSource(seed)), [][]impl.Cue{}
	for range count {
		lists = append(lists, randomCues(random, random.Intn(33)))
	}
	return lists
}

// Promise 14: levels.

func TestP14LevelAtCases(t *testing.T) {
	few, sun := fewCues(), cuesOf("a 1000 sun fade 600 500")
	cut, at := cuesOf("a 0 x fade 1000 1000", "b 250 x fade 0 1000", "c 400 y set 7", "d 750 x fade 500 10"), cuesOf("a 0 x set 300", "b 10 x fade 900 100", "c 10 x set 50", "d 20 x set 70", "e 20 x fade 0 50")
	halves, last := cuesOf("a 0 x fade 1 2", "b 10 x fade 0 2", "c 20 x set 3", "d 30 x fade 0 2", "e 40 x fade 5 4"), cuesOf("a 0 x fade 1000 7200000", "b 0 y set 5")
	cases := []struct {
		list   []impl.Cue
		target string
		time   int64
		want   int64
	}{
		{sun, "sun", 0, 0}, {sun, "sun", 999, 0}, {sun, "sun", 1000, 0}, {sun, "sun", 1001, 1}, {sun, "sun", 1250, 300}, {sun, "sun", 1499, 599}, {sun, "sun", 1500, 600}, {sun, "sun", 1501, 600}, {sun, "sun", 7200000, 600},
		{few, "sun", 0, 100}, {few, "sun", 999, 100}, {few, "sun", 1000, 100}, {few, "sun", 1100, 200}, {few, "sun", 1199, 299}, {few, "sun", 1200, 0}, {few, "sun", 1500, 0}, {few, "sun", 7200000, 0}, {few, "hall", 999, 0}, {few, "hall", 1000, 40}, {few, "hall", 7200000, 40},
		{few, "moon", 1250, 0}, {few, "", 1250, 0}, {few, "a", 1250, 0}, {few, "Sun", 1250, 0}, {few, "su", 1250, 0}, {nil, "sun", 0, 0}, {[]impl.Cue{}, "sun", 7200000, 0},
		// A fade that the next cue of its target cuts off goes on from where it was.
		{cut, "x", 249, 249}, {cut, "x", 250, 250}, {cut, "x", 251, 250}, {cut, "x", 252, 249}, {cut, "x", 500, 187}, {cut, "x", 650, 150}, {cut, "x", 749, 125}, {cut, "x", 750, 125}, {cut, "x", 751, 163}, {cut, "x", 755, 313}, {cut, "x", 759, 463}, {cut, "x", 760, 500}, {cut, "x", 1250, 500}, {cut, "y", 399, 0}, {cut, "y", 400, 7},
		// A cue at the same Time cuts a fade off at once.
		{at, "x", 9, 300}, {at, "x", 10, 50}, {at, "x", 19, 50}, {at, "x", 20, 70}, {at, "x", 45, 35}, {at, "x", 69, 1}, {at, "x", 70, 0}, {cuesOf("a 5 x fade 1000 10", "b 5 x fade 500 10"), "x", 5, 0}, {cuesOf("a 5 x fade 1000 10", "b 5 x fade 500 10"), "x", 10, 250}, {cuesOf("a 5 x fade 1000 10", "b 5 x fade 500 10"), "x", 15, 500}, {cuesOf("a 5 x set 1", "b 5 x set 2", "c 5 x set 3"), "x", 5, 3}, {cuesOf("a 5 x set 9", "b 5 x stop"), "x", 5, 0}, {cuesOf("a 5 x stop", "b 5 x set 9"), "x", 5, 9}, {cuesOf("a 5 x fade 1000 10", "b 5 y set 2"), "x", 10, 500}, {cuesOf("a 5 x fade 1000 10", "b 15 x fade 0 10"), "x", 15, 1000}, {cuesOf("a 5 x fade 1000 10", "b 15 x fade 0 10"), "x", 16, 900}, {cuesOf("a 5 x fade 1000 10", "b 14 x fade 0 10"), "x", 14, 900}, {cuesOf("a 5 x fade 1000 10", "b 14 x fade 0 10"), "x", 15, 810},
		// One half goes away from 0.
		{halves, "x", 0, 0}, {halves, "x", 1, 1}, {halves, "x", 2, 1}, {halves, "x", 10, 1}, {halves, "x", 11, 0}, {halves, "x", 12, 0}, {halves, "x", 29, 3}, {halves, "x", 31, 1}, {halves, "x", 32, 0}, {halves, "x", 41, 1}, {halves, "x", 42, 3}, {halves, "x", 43, 4}, {halves, "x", 44, 5},
		{last, "x", 0, 0}, {last, "x", 3599, 0}, {last, "x", 3600, 1}, {last, "x", 3599999, 500}, {last, "x", 3600000, 500}, {last, "x", 7196399, 999}, {last, "x", 7196400, 1000}, {last, "x", 7200000, 1000}, {last, "y", 0, 5}, {cuesOf("a 7200000 x set 8"), "x", 7199999, 0}, {cuesOf("a 7200000 x set 8"), "x", 7200000, 8}, {cuesOf("a 0 x set 1000", "b 0 x fade 0 7200000"), "x", 3599999, 500}, {cuesOf("a 0 x set 1000", "b 0 x fade 0 7200000"), "x", 3600, 999}, {cuesOf("a 0 x set 1000", "b 0 x fade 0 7200000"), "x", 3599, 1000},
	}
	for _, c := range cases {
		checkResult(t, fmt.Sprintf("LevelAt(%v, %q, %d)", c.list, c.target, c.time), coded(impl.LevelAt(c.list, c.target, c.time)), coded(c.want, impl.OK))
	}
	for _, time := range noShowTimes() {
		for _, target := range []string{"sun", "moon", ""} {
			checkResult(t, fmt.Sprintf("LevelAt(few, %q, %d)", target, time), coded(impl.LevelAt(few, target, time)), coded(0, impl.ErrRange))
		}
	}
}

// plainLevel follows the text of the document.
func plainLevel(list []impl.Cue, target string, time int64) int64 {
	own := slices.DeleteFunc(slices.Clone(list), func(c impl.Cue) bool { return c.Target != target })
	level := int64(0)
	for i, c := range own {
		if c.Time > time {
			break
		}
		e := time
		if i+1 < len(own) && own[i+1].Time < e {
			e = own[i+1].Time
		}
		if c.Action == impl.CuFade && e < c.Time+c.Length {
			level += plainQuotient((c.Value-level)*(e-c.Time), c.Length)
		} else {
			level = c.Value
		}
	}
	return level
}

func TestP14LevelsEverywhere(t *testing.T) {
	for _, list := range slices.Concat(validCueLists(), randomCueLists(135, 60)) {
		times, shown := []int64{0, 7200000}, fmt.Sprint(list)
		for time := range int64(110) {
			times = append(times, time, 7199900+time)
		}
		for _, c := range list {
			times = append(times, c.Time, c.Time+c.Length/2, c.Time+c.Length-1, c.Time+c.Length, c.Time+c.Length+1)
		}
		for _, time := range times {
			for _, target := range []string{"sun", "hall", "moon", "b", "x", "none"} {
				if time < 0 || time > 7200000 {
					continue
				}
				checkResult(t, fmt.Sprintf("LevelAt(%s, %q, %d)", shown, target, time), coded(impl.LevelAt(list, target, time)), coded(plainLevel(list, target, time), impl.OK))
			}
		}
	}
}

func TestP14LevelsEndWithTheValueOfTheLastCue(t *testing.T) {
	for _, list := range slices.Concat(validCueLists(), randomCueLists(136, 300)) {
		lastOf, endOf := map[string]int64{}, map[string]int64{}
		for _, c := range list {
			lastOf[c.Target], endOf[c.Target] = c.Value, c.Time+c.Length
		}
		end, _ := impl.ShowEnd(list)
		for target, want := range lastOf {
			for _, time := range []int64{endOf[target], end, impl.MaxShow} {
				checkResult(t, fmt.Sprintf("LevelAt(%v, %q, %d)", list, target, time), coded(impl.LevelAt(list, target, time)), coded(want, impl.OK))
			}
		}
	}
}

// Promise 14: texts.

var cueTexts = textForm[impl.Cue]{"Cue", impl.CueText, impl.ReadCue}

func TestP14CueIsReadBack(t *testing.T) {
	cases := []struct {
		c    impl.Cue
		text string
	}{
		{impl.Cue{Id: "a", Time: 1000, Length: 500, Target: "sun", Action: impl.CuFade, Value: 600}, "a 1000 sun fade 600 500"}, {impl.Cue{Id: "b7", Time: 0, Target: "b7", Action: impl.CuSet, Value: 40}, "b7 0 b7 set 40"}, {impl.Cue{Id: "abcdefghij", Time: 7200000, Target: "zyxwvutsrq", Action: impl.CuStop}, "abcdefghij 7200000 zyxwvutsrq stop"},
		// The names may be those of actions.
		{impl.Cue{Id: "set", Time: 1, Target: "stop", Action: impl.CuFade, Value: 2, Length: 3}, "set 1 stop fade 2 3"}, {impl.Cue{Id: "fade", Time: 1, Target: "set", Action: impl.CuStop}, "fade 1 set stop"}, {impl.Cue{Id: "stop", Time: 1, Target: "fade", Action: impl.CuSet, Value: 2}, "stop 1 fade set 2"},
	}
	for _, c := range cases {
		cueTexts.checkReadBack(t, c.c, c.text)
	}
	for _, text := range []string{
		"a 0 b set 0", "a 0 b set 1000", "a 7200000 b set 1000", "a 7200000 b set 0", "a 0 b fade 0 1", "a 0 b fade 1000 1", "a 0 b fade 1000 7200000", "a 7199999 b fade 0 1", "a 1 b fade 5 7199999", "a 0 b stop", "a 7200000 b stop", "a123456789 10 b123456789 fade 100 1000",
	} {
		cueTexts.checkReadBack(t, cueOf(text), text)
	}
	for _, list := range append(validCueLists(), singleCues()) {
		for _, c := range list {
			numbers := []string{"", fmt.Sprintf(" %d", c.Value), fmt.Sprintf(" %d %d", c.Value, c.Length), ""}
			cueTexts.checkReadBack(t, c, fmt.Sprintf("%s %d %s %s%s", c.Id, c.Time, c.Target, []string{"", "set", "fade", "stop"}[c.Action], numbers[c.Action]))
		}
	}
}

func TestP14CueTextRefuses(t *testing.T) { cueTexts.checkNoTexts(t, invalidCues()) }

func TestP14ReadCueRefuses(t *testing.T) {
	texts := []string{
		// Numbers beyond their ranges.
		"a -1 b set 5", "a 7200001 b set 5", "a -1 b stop", "a 7200001 b stop", "a -1 b fade 5 5", "a 0 b set -1", "a 0 b set 1001", "a 0 b fade -1 5", "a 0 b fade 1001 5", "a 0 b fade 5 0", "a 0 b fade 5 -1", "a 0 b fade 5 7200001", "a 1 b fade 5 7200000", "a 7199999 b fade 5 2", "a 7200000 b fade 5 1", "a 7200000 b fade 5 0",
		// Too few or too many words.
		"a", "a 0", "a 0 b", "a 0 b set", "a 0 b fade", "a 0 b fade 5", "0 b set 5", "a b set 5", "a 0 set 5", "a 0 b 5", "a 0 b 5 5", "0 b stop", "a b stop", "a 0 stop", "a 0 b set 5 5", "a 0 b set 5 0", "a 0 b set 0 0", "a 0 b fade 5 5 5", "a 0 b fade 5 5 0", "a 0 b stop 0", "a 0 b stop 5", "a 0 b stop 0 0", "a 0 b stop -", "a 0 b set 5 -", "a 0 b set 5 a", "a a 0 b set 5", "a 0 0 b set 5", "a 0 b b set 5", "a 0 b set set 5", "a 0 b stop stop",
		// Other words.
		"a 0 b hold", "a 0 b hold 5", "a 0 b blink 5", "a 0 b Set 5", "a 0 b SET 5", "a 0 b Stop", "a 0 b sets 5", "a 0 b se 5", "a 0 b stop\x00", "a 0 b fad 5 5", "a 0 b fades 5 5", "a 0 b 1 5", "a 0 b 2 5 5", "a 0 b 3", "a 0 b -", "a 0 b - 5", "a 0 b 0", "a 0 b 0 5 5", "a 0 b", "a 0 b ",
		// Missing or further blanks, and others.
		" a 0 b set 5", "a 0 b set 5 ", "a  0 b set 5", "a 0  b set 5", "a 0 b  set 5", "a 0 b set  5", "a 0 b fade 5  5", "a 0 b fade 5 5 ", " a 0 b stop", "a 0 b stop ", "a 0 b  stop", "a 0 b  ", "a 0 b  5", "a 0 b  5 5", "  0 b set 5", "a  b set 5", "a 0  set 5", "a0 b set 5", "a 0b set 5", "a 0 bset 5", "a 0 b set5", "a 0 b fade5 5", "a 0 b fade 55", "a\t0 b set 5", "a 0\tb set 5", "a 0 b\tset 5", "a 0 b set\t5", "a 0 b set 5\n", "a 0 b stop\n", "a 0 b\u00a0stop", "a,0,b,set,5", "a 0 b set 5,5", "a 0 b fade 5,5", "a 0 b fade 5,0 5",
		"a 0 b set " + strings.Repeat("0", 10000), "a 0 b stop" + strings.Repeat(" ", 10000), "a 0 b fade" + strings.Repeat(" 5", 10000), strings.Repeat("a ", 10000) + "stop",
	}
	for _, name := range invalidNames() {
		texts = append(texts, name+" 0 b set 5", "a 0 "+name+" set 5", name+" 0 b fade 5 5", "a 0 "+name+" stop")
	}
	for _, number := range append(noNumbers(), "+0", "-5", "05", "5.0", "\u0665", "18446744073709551616", "18446744073709551621", "4294967301") {
		texts = append(texts, "a "+number+" b set 5", "a "+number+" b stop", "a 0 b set "+number, "a 0 b fade "+number+" 5", "a 0 b fade 5 "+number)
	}
	cueTexts.checkNotRead(t, append(texts, edgeTexts()...))
}

func TestP14ReadCueRefusesChangedBytes(t *testing.T) {
	for _, text := range []string{"b9 1234 sun2 fade 345 678", "a 7200000 x9 set 1000", "abcdefghij 0 sun stop"} {
		cueTexts.checkChanged(t, text)
	}
}
