package tests

import (
	"cmp"
	"fmt"
	"math/rand"
	"slices"
	"strings"
	"testing"

	"loop.example/g00955/impl"
)

// codedTrack is a track with its code.
type codedTrack struct {
	track impl.Track
	code  int64
}

func codedKeys(t impl.Track, code int64) codedTrack { return codedTrack{t, code} }

// track returns the track with pairs of Time and Value.
func track(name string, numbers ...int64) impl.Track {
	keys := []impl.Key{}
	for i := 0; i+1 < len(numbers); i += 2 {
		keys = append(keys, key(numbers[i], numbers[i+1]))
	}
	return impl.Track{Name: name, Keys: keys}
}

func key(time, value int64) impl.Key { return impl.Key{Time: time, Value: value} }

// evenTrack returns a track with a number of keys, one every ten thousandths from 10 on, whose Values go up and down.
func evenTrack(count int) impl.Track {
	t := track("even")
	for i := range int64(count) {
		t.Keys = append(t.Keys, key(10*i+10, 100*(i%2)+i))
	}
	return t
}

// fewTrack has keys with rising and falling values, and lies within a show.
func fewTrack() impl.Track { return track("few", 100, 10, 200, 30, 300, -10) }

func orderKeys(a, b impl.Key) int { return cmp.Compare(a.Time, b.Time) }

// randomTrack returns a track with at most a number of keys, which are anywhere, or close together.
func randomTrack(random *rand.Rand, count int) impl.Track {
	t := impl.Track{Name: numberedName(random.Intn(100))}
	most := []int64{100, 3000, impl.MaxShow}[random.Intn(3)]
	size := []int64{3, 1000, impl.MaxSetting}[random.Intn(3)]
	for range count {
		t.Keys = append(t.Keys, key(random.Int63n(most+1), random.Int63n(2*size+1)-size))
	}
	slices.SortFunc(t.Keys, orderKeys)
	t.Keys = slices.CompactFunc(t.Keys, func(a, b impl.Key) bool { return a.Time == b.Time })
	return t
}

func randomTracks(seed int64, count int) []impl.Track {
	random, list := rand.New(rand.NewSource(seed)), []impl.Track{}
	for range count {
		list = append(list, randomTrack(random, 1+random.Intn(impl.MaxKeys)))
	}
	return list
}

// validTracks have one key to MaxKeys, and numbers at the ends of the ranges and between them.
func validTracks() []impl.Track {
	list := []impl.Track{
		track("a", 0, 0), track("a", 7200000, 0), track("a", 5, 1000000), track("a", 5, -1000000), track("a", 0, -1000000, 7200000, 1000000), track("a", 0, 1000000, 7200000, -1000000), track("a", 0, 0, 1, 0), track("a", 7199999, 7, 7200000, 7), track("a", 0, 1, 1, 2, 2, 3, 3, 4), track("a", 0, 5, 10, 5, 20, 5),
		track("abcdefghij", 3, 4), track("z9", 3, 4), track("x1234567890"[:10], 3, 4), fewTrack(), evenTrack(1), evenTrack(2), evenTrack(12), evenTrack(23), evenTrack(24),
	}
	return append(list, randomTracks(140, 20)...)
}

// noSettings are numbers that are not from -MaxSetting to MaxSetting.
func noSettings() []int64 {
	return []int64{-1000001, 1000001, -7200000, 7200000, 1 << 32, 1 << 62, minInt, minInt + 1, maxInt - 1, maxInt}
}

// invalidTracks have no name, too few or too many keys, or some that no track has.
func invalidTracks() []impl.Track {
	list := []impl.Track{
		{}, track("a"), {Name: "a"}, {Keys: fewTrack().Keys}, evenTrack(25), evenTrack(26), evenTrack(100), {Name: "a", Keys: make([]impl.Key, 2)}, {Name: "a", Keys: make([]impl.Key, 24)}, {Name: "a", Keys: make([]impl.Key, 25)},
		// A Time twice, or one that decreases.
		track("a", 0, 0, 0, 0), track("a", 5, 1, 5, 2), track("a", 7200000, 1, 7200000, 1), track("a", 0, 0, 5, 1, 5, 1, 6, 2), track("a", 0, 0, 1, 0, 2, 0, 2, 0), track("a", 1, 0, 0, 0), track("a", 7200000, 0, 0, 0), track("a", 0, 0, 5, 0, 4, 0), track("a", 0, 0, 5, 0, 4, 0, 6, 0), track("a", 0, 0, 5, 0, 0, 0),
	}
	for _, name := range invalidNames() {
		list = append(list, track(name, 0, 0), track(name, 0, 0, 10, 10), impl.Track{Name: name, Keys: evenTrack(24).Keys})
	}
	for _, n := range noShowTimes() {
		list = append(list, track("a", n, 0), track("a", min(n, 5), 0, max(n, 5), 0), track("a", 5, 0, n, 0), track("a", n, 0, 5, 0), track("a", 0, 0, n, 0, 7200000, 0))
	}
	for _, n := range noSettings() {
		list = append(list, track("a", 5, n), track("a", 0, n, 5, 0), track("a", 0, 0, 5, n), track("a", 0, 0, 5, n, 10, 0))
	}
	return list
}

// edgeTimes are numbers within a show and beyond it.
func edgeTimes() []int64 {
	return append(noShowTimes(), 0, 1, 5, 99, 100, 101, 150, 200, 300, 301, 1000, 1000000, 1000001, 3600000, 7199999, 7200000)
}

// trackCalls are those of all functions that take one track, with numbers and a code; and of JoinTracks with the same track twice.
func trackCalls(x impl.Track, n, o int64) []horizonCall {
	arguments := fmt.Sprintf("(%.300q, %d, %d)", fmt.Sprint(x), n, o)
	return []horizonCall{
		{"ValueAt" + arguments, coded(impl.ValueAt(x, n))}, {"SetKey" + arguments, codedKeys(impl.SetKey(x, key(n, o)))}, {"DropKey" + arguments, codedKeys(impl.DropKey(x, n))},
		{"ShiftTrack" + arguments, codedKeys(impl.ShiftTrack(x, n))}, {"StretchTrack" + arguments, codedKeys(impl.StretchTrack(x, n, o))}, {"CutTrack" + arguments, codedKeys(impl.CutTrack(x, n, o))}, {"SlowTrack" + arguments, codedKeys(impl.SlowTrack(x, n))},
		{"FastestOf" + arguments, codedBoth(impl.FastestOf(x))}, {"NeedlessKeys" + arguments, codedMany(impl.NeedlessKeys(x))}, {"JoinTracks with itself " + arguments, codedKeys(impl.JoinTracks(x, x, n))},
	}
}

// joinCalls are those of JoinTracks with two tracks in both orders.
func joinCalls(a, b impl.Track, gap int64) []horizonCall {
	arguments := fmt.Sprintf("(%.300q, %.300q, %d)", fmt.Sprint(a), fmt.Sprint(b), gap)
	return []horizonCall{{"JoinTracks" + arguments, codedKeys(impl.JoinTracks(a, b, gap))}, {"JoinTracks backwards " + arguments, codedKeys(impl.JoinTracks(b, a, gap))}}
}

// isValidTrack follows the text of the document, for a track with a name.
func isValidTrack(x impl.Track) bool {
	for i, k := range x.Keys {
		if k.Time < 0 || k.Time > 7200000 || k.Value < -1000000 || k.Value > 1000000 || i > 0 && k.Time <= x.Keys[i-1].Time {
			return false
		}
	}
	return len(x.Keys) >= 1 && len(x.Keys) <= 24
}

// checkMade compares a track that a function has made, with its code, with the one that is wanted, or with ErrState if that is not valid.
func checkMade(t *testing.T, call string, got codedTrack, want impl.Track) {
	t.Helper()
	if !isValidTrack(want) {
		checkResult(t, call, got, codedTrack{impl.Track{}, impl.ErrState})
		return
	}
	checkResult(t, call, got, codedTrack{want, impl.OK})
	if !impl.ValidTrack(got.track) {
		t.Errorf("%s: %v is not valid", call, got.track)
	}
}

// Promise 1, for the functions of chapter 14.

func TestP1TracksReturnEqualResults(t *testing.T) {
	numbers := append(edgeNumbers(), edgeTimes()...)
	list := append(validTracks(), invalidTracks()...)
	for i, x := range list {
		other := list[(7*i+1)%len(list)]
		for k := range 12 {
			n, o := numbers[(5*i+11*k)%len(numbers)], numbers[(3*i+7*k)%len(numbers)]
			checkRepeats(t, fmt.Sprintf("functions of the track %v and the numbers %d, %d", x, n, o), func() []any {
				results := resultsOf(slices.Concat(trackCalls(x, n, o), joinCalls(x, other, n))...)
				return append(results, impl.ValidTrack(x), impl.ValidTracks([]impl.Track{other, x}), impl.SameTrack(x, other), impl.TrackText(x))
			})
		}
	}
	for _, s := range edgeTexts() {
		for _, text := range []string{s, "a " + s, "a 5:" + s, "a " + s + ":5", s + " 5:5"} {
			checkRepeats(t, fmt.Sprintf("functions of the text %.60q", text), func() []any {
				x, ok := impl.ReadTrack(text)
				return append(resultsOf(trackCalls(track(text, 5, 5), 5, 5)...), x, ok, impl.ValidTrack(track(text, 5, 5)), impl.TrackText(track(text, 5, 5)))
			})
		}
	}
}

// TestP1TracksTakeNumbersAtTheEnds calls all functions with all pairs of numbers at the ends of int64 and of the ranges.
func TestP1TracksTakeNumbersAtTheEnds(t *testing.T) {
	numbers := append(edgeNumbers(), noShowTimes()...)
	for _, x := range []impl.Track{fewTrack(), evenTrack(24), track("a", 0, -1000000, 7200000, 1000000)} {
		for _, n := range numbers {
			for _, o := range numbers {
				y := track("a", n, o, o, n)
				for _, c := range slices.Concat(trackCalls(x, n, o), trackCalls(y, o, n), joinCalls(x, y, n)) {
					if made, isTrack := c.result.(codedTrack); isTrack && (made.code == impl.OK) != impl.ValidTrack(made.track) {
						t.Errorf("%s: %v", c.call, made)
					}
				}
			}
		}
	}
}

// roomyTrack returns a track with the keys of x that has unused capacity, and all memory that it has.
func roomyTrack(x impl.Track) (impl.Track, []impl.Key) {
	whole := slices.Concat(x.Keys, slices.Repeat([]impl.Key{key(77, -77)}, 60))
	return impl.Track{Name: x.Name, Keys: whole[:len(x.Keys)]}, whole
}

func TestP1TracksKeepTheirArguments(t *testing.T) {
	for _, x := range append(validTracks(), invalidTracks()...) {
		roomy, whole := roomyTrack(x)
		before := slices.Clone(whole)
		for _, y := range []impl.Track{roomy, fewTrack(), evenTrack(23), {}} {
			other, wholeOther := roomyTrack(y)
			beforeOther := slices.Clone(wholeOther)
			checkListKept(t, "ValidTracks", []impl.Track{roomy, other}, []impl.Track{fewTrack()}, func(l []impl.Track) { impl.ValidTracks(l) })
			for _, n := range []int64{-1, 0, 1, 10, 15, 100, 150, 240, 7200000, 7200001} {
				trackCalls(roomy, n, 5)
				trackCalls(roomy, 5, n)
				joinCalls(roomy, other, n)
			}
			for _, k := range x.Keys {
				trackCalls(roomy, k.Time, k.Value)
			}
			impl.ValidTrack(roomy)
			impl.SameTrack(roomy, other)
			impl.TrackText(roomy)
			if !slices.Equal(whole, before) || !slices.Equal(wholeOther, beforeOther) {
				t.Fatalf("functions of the tracks %v and %v: changed their keys to %v and %v", x, y, whole, wholeOther)
			}
		}
	}
}

// trackMakers are functions that make a track of one or two.
func trackMakers() map[string]func(a, b impl.Track) (impl.Track, int64) {
	last := func(x impl.Track) impl.Key { return x.Keys[len(x.Keys)-1] }
	return map[string]func(a, b impl.Track) (impl.Track, int64){
		"SetKey at 0":         func(a, _ impl.Track) (impl.Track, int64) { return impl.SetKey(a, key(0, 5)) },
		"SetKey at 15":        func(a, _ impl.Track) (impl.Track, int64) { return impl.SetKey(a, key(15, 5)) },
		"SetKey at MaxShow":   func(a, _ impl.Track) (impl.Track, int64) { return impl.SetKey(a, key(7200000, 5)) },
		"SetKey of the first": func(a, _ impl.Track) (impl.Track, int64) { return impl.SetKey(a, a.Keys[0]) },
		"SetKey of the last":  func(a, _ impl.Track) (impl.Track, int64) { return impl.SetKey(a, key(last(a).Time, 5)) },
		"DropKey the first":   func(a, _ impl.Track) (impl.Track, int64) { return impl.DropKey(a, a.Keys[0].Time) },
		"DropKey the last":    func(a, _ impl.Track) (impl.Track, int64) { return impl.DropKey(a, last(a).Time) },
		"ShiftTrack by 0":     func(a, _ impl.Track) (impl.Track, int64) { return impl.ShiftTrack(a, 0) },
		"ShiftTrack by 1":     func(a, _ impl.Track) (impl.Track, int64) { return impl.ShiftTrack(a, 1) },
		"StretchTrack by 1":   func(a, _ impl.Track) (impl.Track, int64) { return impl.StretchTrack(a, 7, 7) },
		"StretchTrack by 2":   func(a, _ impl.Track) (impl.Track, int64) { return impl.StretchTrack(a, 2, 1) },
		"CutTrack at keys":    func(a, _ impl.Track) (impl.Track, int64) { return impl.CutTrack(a, a.Keys[0].Time, last(a).Time) },
		"CutTrack outside":    func(a, _ impl.Track) (impl.Track, int64) { return impl.CutTrack(a, 0, 7200000) },
		"JoinTracks":          func(a, b impl.Track) (impl.Track, int64) { return impl.JoinTracks(a, b, 1) },
		"JoinTracks behind":   func(a, b impl.Track) (impl.Track, int64) { return impl.JoinTracks(b, a, 1) },
		"JoinTracks itself":   func(a, _ impl.Track) (impl.Track, int64) { return impl.JoinTracks(a, a, 1) },
		"SlowTrack":           func(a, _ impl.Track) (impl.Track, int64) { return impl.SlowTrack(a, 1000000) },
	}
}

func TestP1TracksHaveMemoryOfTheirOwn(t *testing.T) {
	made, other := map[string]int{}, track("b", 5, 6, 7, 8)
	for _, x := range validTracks() {
		for name, maker := range trackMakers() {
			if _, code := maker(x, other); code != impl.OK {
				continue
			}
			made[name]++
			checkMadeOf(t, fmt.Sprintf("%s of %v", name, x), key(99, -99), [][]impl.Key{x.Keys, other.Keys}, func(keys [][]impl.Key) []impl.Key {
				result, code := maker(impl.Track{Name: x.Name, Keys: keys[0]}, impl.Track{Name: other.Name, Keys: keys[1]})
				return withoutCode(t, result.Keys, code)
			})
		}
	}
	for name := range trackMakers() {
		if made[name] < 5 {
			t.Errorf("%s made only %d tracks", name, made[name])
		}
	}
}

func TestP1NeedlessKeysHaveMemoryOfTheirOwn(t *testing.T) {
	for _, x := range []impl.Track{track("a", 0, 0, 1, 1, 2, 2, 3, 3), track("a", 0, 5, 1, 5, 2, 5), evenTrack(24), fewTrack()} {
		roomy, whole := roomyTrack(x)
		before := slices.Clone(whole)
		checkNewNumbers(t, "NeedlessKeys", func() []int64 {
			needless, code := impl.NeedlessKeys(roomy)
			return withoutCode(t, needless, code)
		}, func() bool { return slices.Equal(whole, before) })
	}
	checkNewList(t, "ReadTrack", key(99, -99), func() []impl.Key {
		x, _ := impl.ReadTrack("a 1:2 3:4")
		return x.Keys
	}, func() bool { return true })
}

// Promise 15: valid tracks.

func TestP15TrackConstants(t *testing.T) {
	checkResult(t, "constants", []int64{impl.MaxKeys, impl.MaxTracks, impl.MaxSetting}, []int64{24, 16, 1000000})
}

func TestP15ValidTrack(t *testing.T) {
	for _, x := range validTracks() {
		checkResult(t, fmt.Sprintf("ValidTrack(%v)", x), impl.ValidTrack(x), true)
	}
	for _, x := range invalidTracks() {
		checkResult(t, fmt.Sprintf("ValidTrack(%.200q)", fmt.Sprint(x)), impl.ValidTrack(x), false)
	}
	for count := range 40 {
		checkResult(t, fmt.Sprintf("ValidTrack of %d keys", count), impl.ValidTrack(evenTrack(count)), count >= 1 && count <= 24)
	}
	for _, n := range append(edgeNumbers(), edgeTimes()...) {
		checkResult(t, fmt.Sprintf("ValidTrack with the Time %d", n), impl.ValidTrack(track("a", n, 0)), n >= 0 && n <= 7200000)
		checkResult(t, fmt.Sprintf("ValidTrack with the Value %d", n), impl.ValidTrack(track("a", 0, n)), n >= -1000000 && n <= 1000000)
	}
}

func TestP15ValidTracks(t *testing.T) {
	named := func(names ...string) []impl.Track {
		list := []impl.Track{}
		for _, name := range names {
			list = append(list, track(name, 5, 5))
		}
		return list
	}
	numberedTracks := func(count int) []impl.Track {
		list := []impl.Track{}
		for i := range count {
			list = append(list, impl.Track{Name: numberedName(i), Keys: evenTrack(1 + i%24).Keys})
		}
		return list
	}
	cases := []struct {
		list []impl.Track
		want bool
	}{
		{nil, true}, {[]impl.Track{}, true}, {named("a"), true}, {named("a", "b"), true}, {named("a", "aa", "b", "b0", "b00", "ba"), true}, {named("a10", "a9"), true}, {[]impl.Track{evenTrack(24), fewTrack()}, true},
		{named("a", "a"), false}, {named("a", "b", "b"), false}, {named("a", "a", "b"), false}, {named("b", "a"), false}, {named("a", "c", "b", "d"), false}, {named("aa", "a"), false}, {named("a9", "a10"), false}, {[]impl.Track{fewTrack(), evenTrack(24)}, false}, {[]impl.Track{track("a", 5, 5), track("a", 6, 6)}, false}, {make([]impl.Track, 1), false}, {make([]impl.Track, 16), false}, {make([]impl.Track, 17), false},
	}
	for _, c := range cases {
		checkResult(t, fmt.Sprintf("ValidTracks(%v)", c.list), impl.ValidTracks(c.list), c.want)
	}
	for count := range 30 {
		checkResult(t, fmt.Sprintf("ValidTracks of %d tracks", count), impl.ValidTracks(numberedTracks(count)), count <= 16)
	}
	for _, x := range invalidTracks() {
		name := x.Name
		if !impl.IsName(name) {
			name = "m"
		}
		for _, list := range [][]impl.Track{{x}, {x, track("z", 5, 5)}, {track("a", 5, 5), {Name: name + "0", Keys: x.Keys}}, {track("a", 5, 5), {Name: x.Name, Keys: x.Keys}, track("z", 5, 5)}} {
			if len(list) == 2 && isValidTrack(list[1]) && isValidTrack(list[0]) {
				continue
			}
			checkResult(t, fmt.Sprintf("ValidTracks(%.200q)", fmt.Sprint(list)), impl.ValidTracks(list), false)
		}
		for i := range 16 {
			list := numberedTracks(16)
			list[i].Keys = x.Keys
			checkResult(t, fmt.Sprintf("ValidTracks of 16 tracks with the keys %.200q", fmt.Sprint(x.Keys)), impl.ValidTracks(list), isValidTrack(x))
		}
	}
}

func checkSameTrack(t *testing.T, a, b impl.Track, want bool) {
	t.Helper()
	checkResult(t, fmt.Sprintf("SameTrack(%.200q, %.200q)", fmt.Sprint(a), fmt.Sprint(b)), impl.SameTrack(a, b), want)
	checkResult(t, fmt.Sprintf("SameTrack(%.200q, %.200q)", fmt.Sprint(b), fmt.Sprint(a)), impl.SameTrack(b, a), want)
}

func TestP15SameTrack(t *testing.T) {
	checkSameTrack(t, impl.Track{}, track(""), true)
	checkSameTrack(t, impl.Track{Name: "a"}, track("a"), true)
	checkSameTrack(t, impl.Track{Name: "a"}, track("b"), false)
	for _, x := range append(validTracks(), invalidTracks()...) {
		keys := slices.Clone(x.Keys)
		checkSameTrack(t, x, impl.Track{Name: x.Name, Keys: keys}, true)
		checkSameTrack(t, x, impl.Track{Name: x.Name + "x", Keys: keys}, false)
		checkSameTrack(t, x, impl.Track{Name: x.Name, Keys: append(slices.Clone(keys), impl.Key{})}, false)
		if len(keys) == 0 {
			continue
		}
		checkSameTrack(t, x, impl.Track{Name: x.Name}, false)
		checkSameTrack(t, x, impl.Track{Name: x.Name, Keys: keys[1:]}, false)
		checkSameTrack(t, x, impl.Track{Name: x.Name, Keys: keys[:len(keys)-1]}, false)
		for _, i := range []int{0, len(keys) / 2, len(keys) - 1} {
			for _, d := range []impl.Key{key(1, 0), key(0, 1), key(-1, 0), key(0, -1), key(1, -1)} {
				changed := slices.Clone(keys)
				changed[i] = key(changed[i].Time+d.Time, changed[i].Value+d.Value)
				checkSameTrack(t, x, impl.Track{Name: x.Name, Keys: changed}, false)
			}
		}
	}
	checkSameTrack(t, track("a", 1, 2, 3, 4), track("a", 3, 4, 1, 2), false)
	checkSameTrack(t, track("a", 1, 2), track("a", 2, 1), false)
}

func TestP15InvalidTracksAreRefusedFirst(t *testing.T) {
	for _, x := range invalidTracks() {
		for _, n := range []int64{0, 1, 5, 100, 101, 7200000, -1, 7200001, minInt, maxInt} {
			checkRefused(t, slices.Concat(trackCalls(x, n, 5), trackCalls(x, 5, n), trackCalls(x, n, 1000001)), impl.ErrInvalid)
			for _, other := range []impl.Track{fewTrack(), evenTrack(24), x, {}} {
				checkRefused(t, joinCalls(x, other, n), impl.ErrInvalid)
			}
		}
	}
}

// Promise 15: values.

func TestP15ValueAtCases(t *testing.T) {
	few, one := fewTrack(), track("one", 500, -7)
	falling, rising := track("a", 0, 0, 3, -1), track("a", 0, 1, 2, 0, 4, 1, 6, -2)
	up, down := track("a", 0, -1000000, 7200000, 1000000), track("a", 0, 1000000, 7200000, -1000000)
	cases := []struct {
		x          impl.Track
		time, want int64
	}{
		{track("dim", 0, 0, 1000, 100), 500, 50}, {few, 0, 10}, {few, 99, 10}, {few, 100, 10}, {few, 101, 10}, {few, 102, 10}, {few, 103, 11}, {few, 150, 20}, {few, 199, 30}, {few, 197, 29}, {few, 200, 30}, {few, 201, 30}, {few, 202, 29}, {few, 250, 10}, {few, 275, 0}, {few, 299, -10}, {few, 298, -9}, {few, 300, -10}, {few, 301, -10}, {few, 7200000, -10},
		{one, 0, -7}, {one, 499, -7}, {one, 500, -7}, {one, 501, -7}, {one, 7200000, -7}, {track("a", 0, 5), 0, 5}, {track("a", 0, 5), 7200000, 5}, {track("a", 7200000, 5), 0, 5}, {track("a", 7200000, 5), 7200000, 5},
		// Quotients of negative numbers, and one half exactly, which goes away from 0.
		{falling, 0, 0}, {falling, 1, 0}, {falling, 2, -1}, {falling, 3, -1}, {falling, 4, -1}, {rising, 1, 0}, {rising, 3, 1}, {rising, 5, -1}, {track("a", 0, 0, 2, 1), 1, 1}, {track("a", 0, 0, 2, -1), 1, -1}, {track("a", 0, -1, 2, 0), 1, 0}, {track("a", 0, 5, 4, 3), 1, 4}, {track("a", 0, 5, 4, 3), 2, 4}, {track("a", 0, 5, 4, 3), 3, 3}, {track("a", 0, 3, 4, 5), 1, 4}, {track("a", 0, 3, 4, 5), 3, 5}, {track("a", 0, -3, 4, -5), 1, -4}, {track("a", 0, -3, 4, -5), 3, -5}, {track("a", 0, -5, 2, 4), 1, 0}, {track("a", 0, 4, 2, -5), 1, -1},
		// The greatest differences, whose product is more than MaxValue.
		{up, 0, -1000000}, {up, 1, -1000000}, {up, 2, -999999}, {up, 9, -999997}, {up, 3599998, -1}, {up, 3599999, 0}, {up, 3600000, 0}, {up, 3600001, 0}, {up, 3600002, 1}, {up, 7199998, 999999}, {up, 7199999, 1000000}, {up, 7200000, 1000000},
		{down, 0, 1000000}, {down, 1, 1000000}, {down, 2, 999999}, {down, 9, 999997}, {down, 3599998, 1}, {down, 3599999, 0}, {down, 3600000, 0}, {down, 3600002, -1}, {down, 7199998, -999999}, {down, 7199999, -1000000}, {down, 7200000, -1000000},
		{evenTrack(24), 9, 0}, {evenTrack(24), 10, 0}, {evenTrack(24), 15, 51}, {evenTrack(24), 20, 101}, {evenTrack(24), 235, 73}, {evenTrack(24), 240, 123}, {evenTrack(24), 241, 123},
	}
	for _, c := range cases {
		checkResult(t, fmt.Sprintf("ValueAt(%v, %d)", c.x, c.time), coded(impl.ValueAt(c.x, c.time)), coded(c.want, impl.OK))
	}
	for _, x := range validTracks() {
		for _, time := range noShowTimes() {
			checkResult(t, fmt.Sprintf("ValueAt(%v, %d)", x, time), coded(impl.ValueAt(x, time)), coded(0, impl.ErrRange))
		}
	}
}

// plainValue follows the text of the document.
func plainValue(x impl.Track, time int64) int64 {
	first, last := x.Keys[0], x.Keys[len(x.Keys)-1]
	if time < first.Time {
		return first.Value
	}
	if time > last.Time {
		return last.Value
	}
	before := first
	for _, k := range x.Keys {
		switch {
		case k.Time == time:
			return k.Value
		case k.Time > time:
			return before.Value + plainQuotient((k.Value-before.Value)*(time-before.Time), k.Time-before.Time)
		}
		before = k
	}
	return before.Value
}

// timesAround are times at the keys of a track, beside them, between them, and at the ends of the show.
func timesAround(random *rand.Rand, x impl.Track) []int64 {
	times := []int64{0, 1, 7199999, 7200000, random.Int63n(7200001)}
	for i, k := range x.Keys {
		times = append(times, k.Time-1, k.Time, k.Time+1, k.Time+random.Int63n(20))
		if i > 0 {
			before := x.Keys[i-1].Time
			times = append(times, (before+k.Time)/2, before+random.Int63n(k.Time-before))
		}
	}
	slices.Sort(times)
	return slices.DeleteFunc(slices.Compact(times), func(time int64) bool { return time < 0 || time > 7200000 })
}

func TestP15ValuesLieBetweenThoseOfTheKeys(t *testing.T) {
	random := rand.New(rand.NewSource(141))
	for _, x := range append(validTracks(), randomTracks(142, 200)...) {
		shown := fmt.Sprint(x)
		for _, time := range timesAround(random, x) {
			value, code := impl.ValueAt(x, time)
			checkResult(t, fmt.Sprintf("ValueAt(%s, %d)", shown, time), coded(value, code), coded(plainValue(x, time), impl.OK))
			at, isKey := slices.BinarySearchFunc(x.Keys, key(time, 0), orderKeys)
			before, behind := x.Keys[max(at-1, 0)].Value, x.Keys[min(at, len(x.Keys)-1)].Value
			if isKey {
				before = behind
			}
			if value < min(before, behind) || value > max(before, behind) {
				t.Errorf("ValueAt(%s, %d): %d is not between %d and %d", shown, time, value, before, behind)
			}
		}
	}
}

// Promise 15: keys.

func TestP15SetKeyCases(t *testing.T) {
	few, one := fewTrack(), track("one", 500, 5)
	cases := []struct {
		x    impl.Track
		k    impl.Key
		want []int64
	}{
		{few, key(0, 7), []int64{0, 7, 100, 10, 200, 30, 300, -10}}, {few, key(99, 7), []int64{99, 7, 100, 10, 200, 30, 300, -10}}, {few, key(101, 7), []int64{100, 10, 101, 7, 200, 30, 300, -10}}, {few, key(250, 7), []int64{100, 10, 200, 30, 250, 7, 300, -10}}, {few, key(301, 7), []int64{100, 10, 200, 30, 300, -10, 301, 7}}, {few, key(7200000, -1000000), []int64{100, 10, 200, 30, 300, -10, 7200000, -1000000}},
		{few, key(100, 7), []int64{100, 7, 200, 30, 300, -10}}, {few, key(200, 1000000), []int64{100, 10, 200, 1000000, 300, -10}}, {few, key(300, 0), []int64{100, 10, 200, 30, 300, 0}}, {few, key(200, 30), []int64{100, 10, 200, 30, 300, -10}},
		{one, key(0, 1), []int64{0, 1, 500, 5}}, {one, key(500, 1), []int64{500, 1}}, {one, key(501, 1), []int64{500, 5, 501, 1}}, {track("one", 0, 5), key(7200000, 1), []int64{0, 5, 7200000, 1}}, {track("one", 7200000, 5), key(0, 1), []int64{0, 1, 7200000, 5}},
	}
	for _, c := range cases {
		checkMade(t, fmt.Sprintf("SetKey(%v, %v)", c.x, c.k), codedKeys(impl.SetKey(c.x, c.k)), track(c.x.Name, c.want...))
	}
}

func TestP15SetKeyInFullTracks(t *testing.T) {
	full := evenTrack(24)
	for time := int64(0); time <= 300; time++ {
		call := fmt.Sprintf("SetKey at %d of MaxKeys", time)
		at := slices.IndexFunc(full.Keys, func(k impl.Key) bool { return k.Time == time })
		if at < 0 {
			checkResult(t, call, codedKeys(impl.SetKey(full, key(time, 5))), codedTrack{impl.Track{}, impl.ErrFull})
			continue
		}
		changed := impl.Track{Name: full.Name, Keys: slices.Clone(full.Keys)}
		changed.Keys[at].Value = 5
		checkMade(t, call, codedKeys(impl.SetKey(full, key(time, 5))), changed)
		shorter, _ := impl.DropKey(full, time)
		checkMade(t, call+" but one", codedKeys(impl.SetKey(shorter, full.Keys[at])), full)
	}
	for _, x := range append(validTracks(), full) {
		for _, n := range noShowTimes() {
			checkResult(t, fmt.Sprintf("SetKey(%v) with the Time %d", x, n), codedKeys(impl.SetKey(x, key(n, 5))), codedTrack{impl.Track{}, impl.ErrRange})
		}
		for _, n := range noSettings() {
			for _, time := range []int64{0, 10, 15, 7200000, 7200001, n} {
				checkResult(t, fmt.Sprintf("SetKey(%v) at %d with the Value %d", x, time, n), codedKeys(impl.SetKey(x, key(time, n))), codedTrack{impl.Track{}, impl.ErrRange})
			}
		}
	}
}

// plainSet follows the text of the document, for a key that is valid and has room.
func plainSet(x impl.Track, k impl.Key) impl.Track {
	keys := slices.DeleteFunc(slices.Clone(x.Keys), func(other impl.Key) bool { return other.Time == k.Time })
	keys = append(keys, k)
	slices.SortFunc(keys, orderKeys)
	return impl.Track{Name: x.Name, Keys: keys}
}

func TestP15SetKeyGivesTheValueAtItsTime(t *testing.T) {
	random := rand.New(rand.NewSource(143))
	for _, x := range append(validTracks(), randomTracks(144, 100)...) {
		for _, time := range timesAround(random, x) {
			k := key(time, random.Int63n(2000001)-1000000)
			want, call := plainSet(x, k), fmt.Sprintf("SetKey(%v, %v)", x, k)
			if len(want.Keys) > 24 {
				checkResult(t, call, codedKeys(impl.SetKey(x, k)), codedTrack{impl.Track{}, impl.ErrFull})
				continue
			}
			checkMade(t, call, codedKeys(impl.SetKey(x, k)), want)
			checkResult(t, "ValueAt of "+call, coded(impl.ValueAt(want, time)), coded(k.Value, impl.OK))
		}
	}
}

func TestP15DropKey(t *testing.T) {
	few := fewTrack()
	checkMade(t, "DropKey the first", codedKeys(impl.DropKey(few, 100)), track("few", 200, 30, 300, -10))
	checkMade(t, "DropKey the second", codedKeys(impl.DropKey(few, 200)), track("few", 100, 10, 300, -10))
	checkMade(t, "DropKey the last", codedKeys(impl.DropKey(few, 300)), track("few", 100, 10, 200, 30))
	for _, x := range append(validTracks(), randomTracks(145, 50)...) {
		missing := append(noShowTimes(), 0, 1, 5, 7199999, 7200000)
		for i, k := range x.Keys {
			missing = append(missing, k.Time-1, k.Time+1)
			call := fmt.Sprintf("DropKey(%v, %d)", x, k.Time)
			shorter, code := impl.DropKey(x, k.Time)
			if len(x.Keys) == 1 {
				checkResult(t, call, codedKeys(shorter, code), codedTrack{impl.Track{}, impl.ErrState})
				continue
			}
			checkMade(t, call, codedKeys(shorter, code), impl.Track{Name: x.Name, Keys: slices.Delete(slices.Clone(x.Keys), i, i+1)})
			checkMade(t, "SetKey of what was dropped by "+call, codedKeys(impl.SetKey(shorter, k)), x)
		}
		for _, time := range missing {
			if !slices.ContainsFunc(x.Keys, func(k impl.Key) bool { return k.Time == time }) {
				checkResult(t, fmt.Sprintf("DropKey(%v, %d)", x, time), codedKeys(impl.DropKey(x, time)), codedTrack{impl.Track{}, impl.ErrNotFound})
			}
		}
	}
}

// Promise 15: tracks at other times.

// withTimes returns a track with what a function makes of the Times.
func withTimes(x impl.Track, of func(int64) int64) impl.Track {
	changed := impl.Track{Name: x.Name}
	for _, k := range x.Keys {
		changed.Keys = append(changed.Keys, key(of(k.Time), k.Value))
	}
	return changed
}

func TestP15ShiftTrack(t *testing.T) {
	ends, middle := track("a", 5, 1, 7199990, 2), track("a", 3600000, 7)
	cases := []struct {
		x    impl.Track
		by   int64
		want []int64
	}{
		{ends, 0, []int64{5, 1, 7199990, 2}}, {ends, -5, []int64{0, 1, 7199985, 2}}, {ends, -6, nil}, {ends, 10, []int64{15, 1, 7200000, 2}}, {ends, 11, nil}, {ends, -7200000, nil}, {ends, 7200000, nil},
		{track("a", 0, 1, 7200000, 2), 0, []int64{0, 1, 7200000, 2}}, {track("a", 0, 1, 7200000, 2), 1, nil}, {track("a", 0, 1, 7200000, 2), -1, nil}, {track("a", 0, 1), 7200000, []int64{7200000, 1}}, {track("a", 7200000, 1), -7200000, []int64{0, 1}}, {track("a", 1, 1), 7200000, nil}, {track("a", 7199999, 1), -7200000, nil}, {track("a", 0, 1), -1, nil}, {track("a", 7200000, 1), 1, nil},
		{middle, 3600000, []int64{7200000, 7}}, {middle, 3600001, nil}, {middle, -3600000, []int64{0, 7}}, {middle, -3600001, nil}, {fewTrack(), 50, []int64{150, 10, 250, 30, 350, -10}}, {fewTrack(), -100, []int64{0, 10, 100, 30, 200, -10}}, {fewTrack(), -101, nil}, {fewTrack(), -150, nil}, {fewTrack(), 7199700, []int64{7199800, 10, 7199900, 30, 7200000, -10}}, {fewTrack(), 7199701, nil}, {fewTrack(), 7199850, nil},
	}
	for _, c := range cases {
		checkMade(t, fmt.Sprintf("ShiftTrack(%v, %d)", c.x, c.by), codedKeys(impl.ShiftTrack(c.x, c.by)), track(c.x.Name, c.want...))
	}
	for _, x := range validTracks() {
		first, last := x.Keys[0].Time, x.Keys[len(x.Keys)-1].Time
		for _, by := range []int64{0, 1, -1, -first, -first - 1, 7200000 - last, 7200001 - last, 7200000, -7200000} {
			if by < -7200000 || by > 7200000 {
				continue
			}
			checkMade(t, fmt.Sprintf("ShiftTrack(%v, %d)", x, by), codedKeys(impl.ShiftTrack(x, by)), withTimes(x, func(time int64) int64 { return time + by }))
		}
		for _, by := range []int64{-7200001, 7200001, 14400000, 1 << 32, 1 << 62, minInt, minInt + 1, maxInt} {
			checkResult(t, fmt.Sprintf("ShiftTrack(%v, %d)", x, by), codedKeys(impl.ShiftTrack(x, by)), codedTrack{impl.Track{}, impl.ErrRange})
		}
	}
}

func TestP15ShiftedTracksHaveTheSameValues(t *testing.T) {
	random := rand.New(rand.NewSource(146))
	for _, x := range validTracks() {
		first, last := x.Keys[0].Time, x.Keys[len(x.Keys)-1].Time
		for _, by := range []int64{-first, 7200000 - last, random.Int63n(7200001-last+first) - first} {
			moved, code := impl.ShiftTrack(x, by)
			checkResult(t, "the code of ShiftTrack", code, impl.OK)
			for _, time := range timesAround(random, x) {
				if time+by < 0 || time+by > 7200000 {
					continue
				}
				checkResult(t, fmt.Sprintf("ValueAt(%v moved by %d, %d)", x, by, time+by), coded(impl.ValueAt(moved, time+by)), coded(impl.ValueAt(x, time)))
			}
		}
	}
}

func TestP15StretchTrackCases(t *testing.T) {
	cases := []struct {
		x        impl.Track
		num, den int64
		want     []int64
	}{
		{fewTrack(), 3, 2, []int64{150, 10, 300, 30, 450, -10}}, {fewTrack(), 1, 1, []int64{100, 10, 200, 30, 300, -10}}, {fewTrack(), 100, 1, []int64{10000, 10, 20000, 30, 30000, -10}}, {fewTrack(), 1, 100, []int64{1, 10, 2, 30, 3, -10}}, {fewTrack(), 100, 100, []int64{100, 10, 200, 30, 300, -10}}, {fewTrack(), 1, 3, []int64{33, 10, 66, 30, 100, -10}}, {fewTrack(), 2, 3, []int64{66, 10, 133, 30, 200, -10}},
		{track("a", 0, 1, 1, 2), 1, 2, nil}, {track("a", 1, 1, 2, 2), 1, 2, []int64{0, 1, 1, 2}}, {track("a", 2, 1, 3, 2), 1, 2, nil}, {track("a", 2, 1, 3, 2), 2, 3, []int64{1, 1, 2, 2}}, {track("a", 0, 1, 99, 2), 1, 100, nil}, {track("a", 0, 1, 100, 2), 1, 100, []int64{0, 1, 1, 2}}, {track("a", 99, 1, 100, 2), 1, 100, []int64{0, 1, 1, 2}}, {track("a", 0, 1, 1, 2), 99, 100, nil}, {track("a", 0, 1, 2, 2), 99, 100, []int64{0, 1, 1, 2}}, {track("a", 5, 1, 6, 1, 9, 3), 1, 3, []int64{1, 1, 2, 1, 3, 3}}, {track("a", 5, 1, 6, 1, 8, 3), 1, 3, nil},
		{track("a", 5, 7), 3, 2, []int64{7, 7}}, {track("a", 5, 7), 1, 100, []int64{0, 7}}, {track("a", 0, 7), 100, 1, []int64{0, 7}},
		// At the end of a show, and one behind it.
		{track("a", 72000, 7), 100, 1, []int64{7200000, 7}}, {track("a", 72001, 7), 100, 1, nil}, {track("a", 4800000, 7), 3, 2, []int64{7200000, 7}}, {track("a", 4800001, 7), 3, 2, nil}, {track("a", 7128000, 7), 100, 99, []int64{7200000, 7}}, {track("a", 7128001, 7), 100, 99, nil}, {track("a", 6171429, 7), 7, 6, []int64{7200000, 7}}, {track("a", 6171430, 7), 7, 6, nil}, {track("a", 7200000, 7), 100, 1, nil}, {track("a", 7200000, 7), 1, 100, []int64{72000, 7}}, {track("a", 0, 1, 7200000, 7), 2, 1, nil}, {track("a", 0, 1, 3600000, 7), 2, 1, []int64{0, 1, 7200000, 7}}, {track("a", 0, 1, 1, 2, 3600001, 7), 2, 1, nil},
	}
	for _, c := range cases {
		checkMade(t, fmt.Sprintf("StretchTrack(%v, %d, %d)", c.x, c.num, c.den), codedKeys(impl.StretchTrack(c.x, c.num, c.den)), track(c.x.Name, c.want...))
	}
}

func TestP15StretchTrack(t *testing.T) {
	random := rand.New(rand.NewSource(147))
	for _, x := range validTracks() {
		for n := int64(1); n <= 100; n++ {
			checkMade(t, fmt.Sprintf("StretchTrack(%v, %d, %d)", x, n, n), codedKeys(impl.StretchTrack(x, n, n)), x)
			for _, den := range []int64{1, 100, 1 + random.Int63n(100)} {
				checkMade(t, fmt.Sprintf("StretchTrack(%v, %d, %d)", x, n, den), codedKeys(impl.StretchTrack(x, n, den)), withTimes(x, func(time int64) int64 { return time * n / den }))
			}
		}
		for _, n := range []int64{0, 101, -1, -100, 1 << 32, 1 << 62, minInt, minInt + 1, maxInt} {
			for _, other := range []int64{1, 2, 100, 0, 101, n} {
				for _, both := range [][2]int64{{n, other}, {other, n}} {
					checkResult(t, fmt.Sprintf("StretchTrack(%v, %v)", x, both), codedKeys(impl.StretchTrack(x, both[0], both[1])), codedTrack{impl.Track{}, impl.ErrRange})
				}
			}
		}
	}
}

// Promise 15: parts.

func TestP15CutTrackCases(t *testing.T) {
	few := fewTrack()
	cases := []struct {
		x           impl.Track
		from, until int64
		want        []int64
	}{
		// At keys, and between them.
		{few, 100, 300, []int64{0, 10, 100, 30, 200, -10}}, {few, 100, 200, []int64{0, 10, 100, 30}}, {few, 200, 300, []int64{0, 30, 100, -10}}, {few, 150, 250, []int64{0, 20, 50, 30, 100, 10}}, {few, 150, 200, []int64{0, 20, 50, 30}}, {few, 100, 150, []int64{0, 10, 50, 20}}, {few, 110, 120, []int64{0, 12, 10, 14}}, {few, 101, 299, []int64{0, 10, 99, 30, 198, -10}}, {few, 199, 201, []int64{0, 30, 1, 30, 2, 30}}, {few, 200, 201, []int64{0, 30, 1, 30}}, {few, 199, 200, []int64{0, 30, 1, 30}},
		// Before the first one, and behind the last one.
		{few, 0, 50, []int64{0, 10, 50, 10}}, {few, 0, 100, []int64{0, 10, 100, 10}}, {few, 0, 101, []int64{0, 10, 100, 10, 101, 10}}, {few, 99, 100, []int64{0, 10, 1, 10}}, {few, 50, 250, []int64{0, 10, 50, 10, 150, 30, 200, 10}}, {few, 299, 301, []int64{0, -10, 1, -10, 2, -10}}, {few, 300, 301, []int64{0, -10, 1, -10}}, {few, 300, 7200000, []int64{0, -10, 7199700, -10}}, {few, 400, 500, []int64{0, -10, 100, -10}}, {few, 250, 400, []int64{0, 10, 50, -10, 150, -10}}, {few, 7199999, 7200000, []int64{0, -10, 1, -10}}, {few, 0, 1, []int64{0, 10, 1, 10}},
		{few, 0, 7200000, []int64{0, 10, 100, 10, 200, 30, 300, -10, 7200000, -10}},
		{track("a", 0, 5), 0, 7200000, []int64{0, 5, 7200000, 5}}, {track("a", 7200000, 5), 0, 7200000, []int64{0, 5, 7200000, 5}}, {track("a", 50, 5), 0, 7200000, []int64{0, 5, 50, 5, 7200000, 5}}, {track("a", 50, 5), 50, 51, []int64{0, 5, 1, 5}}, {track("a", 50, 5), 49, 50, []int64{0, 5, 1, 5}}, {track("a", 0, -1000000, 7200000, 1000000), 9, 3600000, []int64{0, -999997, 3599991, 0}}, {track("a", 0, -1000000, 7200000, 1000000), 0, 7200000, []int64{0, -1000000, 7200000, 1000000}},
	}
	for _, c := range cases {
		checkMade(t, fmt.Sprintf("CutTrack(%v, %d, %d)", c.x, c.from, c.until), codedKeys(impl.CutTrack(c.x, c.from, c.until)), track(c.x.Name, c.want...))
	}
}

func TestP15CutTrackRefuses(t *testing.T) {
	for _, x := range append(validTracks(), evenTrack(24)) {
		for _, both := range [][2]int64{{0, 0}, {5, 5}, {100, 100}, {7200000, 7200000}, {6, 5}, {7200000, 0}, {7200000, 7199999}, {-1, 5}, {-1, -1}, {0, -1}, {0, 7200001}, {7200000, 7200001}, {7200001, 7200002}, {-1, 7200001}} {
			checkResult(t, fmt.Sprintf("CutTrack(%v, %v)", x, both), codedKeys(impl.CutTrack(x, both[0], both[1])), codedTrack{impl.Track{}, impl.ErrRange})
		}
		for _, n := range noShowTimes() {
			for _, both := range [][2]int64{{n, 5}, {n, 7200000}, {0, n}, {5, n}, {n, n}, {min(n, n-1), max(n, n-1)}} {
				checkResult(t, fmt.Sprintf("CutTrack(%v, %v)", x, both), codedKeys(impl.CutTrack(x, both[0], both[1])), codedTrack{impl.Track{}, impl.ErrRange})
			}
		}
	}
	for count := 20; count <= 24; count++ {
		x := evenTrack(count)
		end := int64(10 * count)
		for from := int64(0); from <= 30; from++ {
			for until := end - 30; until <= end+20; until++ {
				inside := 0
				for _, k := range x.Keys {
					if k.Time > from && k.Time < until {
						inside++
					}
				}
				_, code := impl.CutTrack(x, from, until)
				want := int64(impl.OK)
				if inside+2 > 24 {
					want = impl.ErrFull
				}
				checkResult(t, fmt.Sprintf("the code of CutTrack of %d keys from %d until %d", count, from, until), code, want)
			}
		}
	}
}

// plainCut follows the text of the document.
func plainCut(x impl.Track, from, until int64) impl.Track {
	part := track(x.Name, 0, plainValue(x, from))
	for _, k := range x.Keys {
		if k.Time > from && k.Time < until {
			part.Keys = append(part.Keys, key(k.Time-from, k.Value))
		}
	}
	part.Keys = append(part.Keys, key(until-from, plainValue(x, until)))
	return part
}

// isKeyTime reports whether a track changes its slope nowhere between its key and a time: at keys, and beyond the first and the last one.
func isKeyTime(x impl.Track, time int64) bool {
	return time <= x.Keys[0].Time || time >= x.Keys[len(x.Keys)-1].Time || slices.ContainsFunc(x.Keys, func(k impl.Key) bool { return k.Time == time })
}

func TestP15PartsHaveTheSameValues(t *testing.T) {
	random := rand.New(rand.NewSource(148))
	for _, x := range append(validTracks(), randomTracks(149, 100)...) {
		times := timesAround(random, x)
		for range 30 {
			from, until := times[random.Intn(len(times))], times[random.Intn(len(times))]
			if from >= until {
				continue
			}
			call, want := fmt.Sprintf("CutTrack(%v, %d, %d)", x, from, until), plainCut(x, from, until)
			part, code := impl.CutTrack(x, from, until)
			if len(want.Keys) > 24 {
				checkResult(t, call, codedKeys(part, code), codedTrack{impl.Track{}, impl.ErrFull})
				continue
			}
			checkMade(t, call, codedKeys(part, code), want)
			// The values at both ends are rounded, which moves those up to the next key by one at the most.
			mostOff := int64(1)
			if isKeyTime(x, from) && isKeyTime(x, until) {
				mostOff = 0
			}
			for _, time := range append(times, from, until, (from+until)/2) {
				if time < from || time > until {
					continue
				}
				got, _ := impl.ValueAt(part, time-from)
				whole, _ := impl.ValueAt(x, time)
				if off := sizeOf(got - whole); off > mostOff || off > 0 && (time == from || time == until || isKeyTime(x, time)) {
					t.Errorf("%s at %d: got %d, want %d", call, time-from, got, whole)
				}
			}
		}
	}
}

func TestP15JoinTracksCases(t *testing.T) {
	few, one := fewTrack(), track("one", 500, 5)
	cases := []struct {
		a, b impl.Track
		gap  int64
		want []int64
	}{
		{few, one, 1, []int64{100, 10, 200, 30, 300, -10, 301, 5}}, {few, one, 7199700, []int64{100, 10, 200, 30, 300, -10, 7200000, 5}}, {few, one, 7199701, nil}, {one, few, 100, []int64{500, 5, 600, 10, 700, 30, 800, -10}}, {one, few, 1, []int64{500, 5, 501, 10, 601, 30, 701, -10}}, {one, few, 7199300, []int64{500, 5, 7199800, 10, 7199900, 30, 7200000, -10}}, {one, few, 7199301, nil}, {one, few, 7199400, nil}, {one, few, 7199500, nil}, {one, few, 7199501, nil},
		// The same track twice.
		{few, few, 100, []int64{100, 10, 200, 30, 300, -10, 400, 10, 500, 30, 600, -10}}, {one, one, 1, []int64{500, 5, 501, 5}}, {one, one, 7199500, []int64{500, 5, 7200000, 5}}, {one, one, 7199501, nil},
		{track("a", 0, 1), track("b", 0, 2), 7200000, []int64{0, 1, 7200000, 2}}, {track("a", 0, 1), track("b", 7200000, 2), 7200000, []int64{0, 1, 7200000, 2}}, {track("a", 0, 1), track("b", 7200000, 2), 1, []int64{0, 1, 1, 2}}, {track("a", 1, 1), track("b", 0, 2), 7200000, nil}, {track("a", 7200000, 1), track("b", 0, 2), 1, nil}, {track("a", 7199999, 1), track("b", 0, 2), 1, []int64{7199999, 1, 7200000, 2}}, {track("a", 0, 1), track("b", 0, 2, 7200000, 3), 1, nil}, {track("a", 0, 1), track("b", 1, 2, 7200000, 3), 1, []int64{0, 1, 1, 2, 7200000, 3}},
	}
	for _, c := range cases {
		checkMade(t, fmt.Sprintf("JoinTracks(%v, %v, %d)", c.a, c.b, c.gap), codedKeys(impl.JoinTracks(c.a, c.b, c.gap)), track(c.a.Name, c.want...))
	}
}

// plainJoin follows the text of the document, for tracks that have at most MaxKeys keys together.
func plainJoin(a, b impl.Track, gap int64) impl.Track {
	by := a.Keys[len(a.Keys)-1].Time + gap - b.Keys[0].Time
	return impl.Track{Name: a.Name, Keys: slices.Concat(a.Keys, withTimes(b, func(time int64) int64 { return time + by }).Keys)}
}

func TestP15JoinTracks(t *testing.T) {
	random := rand.New(rand.NewSource(150))
	for _, a := range validTracks() {
		for _, b := range append(validTracks(), a) {
			for _, gap := range []int64{1, 7200000, 1 + random.Int63n(1000), 1 + random.Int63n(7200000)} {
				call := fmt.Sprintf("JoinTracks(%v, %v, %d)", a, b, gap)
				joined, code := impl.JoinTracks(a, b, gap)
				if len(a.Keys)+len(b.Keys) > 24 {
					checkResult(t, call, codedKeys(joined, code), codedTrack{impl.Track{}, impl.ErrFull})
					continue
				}
				checkMade(t, call, codedKeys(joined, code), plainJoin(a, b, gap))
			}
			for _, gap := range []int64{0, -1, 7200001, -7200000, 1 << 32, 1 << 62, minInt, minInt + 1, maxInt} {
				// This comes ahead of too many keys.
				checkResult(t, fmt.Sprintf("JoinTracks(%v, %v, %d)", a, b, gap), codedKeys(impl.JoinTracks(a, b, gap)), codedTrack{impl.Track{}, impl.ErrRange})
			}
		}
	}
	for count := 1; count <= 24; count++ {
		for other := 1; other <= 24; other++ {
			for _, gap := range []int64{1, 7000000, 7200000} {
				a, b := evenTrack(count), evenTrack(other)
				want := plainJoin(a, b, gap)
				got, call := codedKeys(impl.JoinTracks(a, b, gap)), fmt.Sprintf("JoinTracks of %d and %d keys, %d", count, other, gap)
				if count+other > 24 {
					checkResult(t, call, got, codedTrack{impl.Track{}, impl.ErrFull})
					continue
				}
				checkMade(t, call, got, want)
			}
		}
	}
}

func TestP15JoinedTracksHaveTheSameValues(t *testing.T) {
	random := rand.New(rand.NewSource(151))
	for _, a := range randomTracks(152, 40) {
		for _, b := range randomTracks(153, 10) {
			joined, code := impl.JoinTracks(a, b, 10)
			if code != impl.OK {
				continue
			}
			end := a.Keys[len(a.Keys)-1].Time
			by := end + 10 - b.Keys[0].Time
			for _, time := range timesAround(random, a) {
				if time <= end {
					checkResult(t, fmt.Sprintf("ValueAt(%v, %d)", joined, time), coded(impl.ValueAt(joined, time)), coded(impl.ValueAt(a, time)))
				}
			}
			for _, time := range timesAround(random, b) {
				if time >= b.Keys[0].Time && time+by <= 7200000 {
					checkResult(t, fmt.Sprintf("ValueAt(%v, %d)", joined, time+by), coded(impl.ValueAt(joined, time+by)), coded(impl.ValueAt(b, time)))
				}
			}
		}
	}
}

// Promise 15: how fast values change.

func TestP15FastestOfCases(t *testing.T) {
	cases := []struct {
		x           impl.Track
		index, fast int64
	}{
		{track("a", 0, 5, 10, 5), 0, 0}, {track("a", 0, 5, 10, 5, 20, 5, 7200000, 5), 0, 0}, {track("a", 0, 0, 1000, 100), 0, 100}, {track("a", 0, 0, 1000, 100, 2000, 200), 0, 100}, {track("a", 0, 100, 1000, 0), 0, 100}, {fewTrack(), 1, 400}, {evenTrack(24), 0, 10100}, {track("a", 0, 5, 10, 5, 20, 6), 1, 100}, {track("a", 5, 5, 15, 6, 25, 6), 0, 100},
		// Equally fast ones.
		{track("a", 0, 0, 10, 1, 20, 0, 30, 1), 0, 100}, {track("a", 0, 0, 10, 0, 20, 5, 30, 0, 40, 5), 1, 500}, {track("a", 0, 0, 10, 1, 30, 3, 50, 7, 70, 3), 2, 200}, {track("a", 0, 0, 10, 5, 110, 55), 0, 500},
		// Quotients that are and are not exact.
		{track("a", 0, 0, 3, 1), 0, 334}, {track("a", 0, 0, 3, 2), 0, 667}, {track("a", 0, 0, 3, 3), 0, 1000}, {track("a", 0, 0, 3, -1), 0, 334}, {track("a", 0, 0, 7, 1), 0, 143}, {track("a", 0, 0, 1000, 1), 0, 1}, {track("a", 0, 0, 1001, 1), 0, 1}, {track("a", 0, 0, 999, 1), 0, 2}, {track("a", 0, 0, 7200000, 1), 0, 1}, {track("a", 0, 0, 7200000, 7200), 0, 1}, {track("a", 0, 0, 7200000, 7201), 0, 2}, {track("a", 0, 0, 7200000, 7199), 0, 1}, {track("a", 0, 0, 999, 0, 1998, 1), 1, 2}, {track("a", 0, 0, 10, 0, 7200000, 1), 1, 1},
		// The rounded numbers are compared.
		{track("a", 0, 0, 1001, 2, 2001, 4), 0, 2}, {track("a", 0, 0, 1000, 2, 2001, 4), 0, 2}, {track("a", 0, 0, 999, 1, 1499, 2), 0, 2},
		{track("a", 0, -1000000, 1, 1000000), 0, 2000000000}, {track("a", 0, 1000000, 1, -1000000, 2, 1000000), 0, 2000000000}, {track("a", 0, -1000000, 7200000, 1000000), 0, 278}, {track("a", 7199998, 0, 7199999, 1000000, 7200000, -1000000), 1, 2000000000},
	}
	for _, c := range cases {
		checkResult(t, fmt.Sprintf("FastestOf(%v)", c.x), codedBoth(impl.FastestOf(c.x)), codedBoth(c.index, c.fast, impl.OK))
	}
}

// plainUp returns the least number that is at least a / b.
func plainUp(a, b int64) int64 {
	up := a / b
	for up*b < a {
		up++
	}
	return up
}

func TestP15FastestOf(t *testing.T) {
	for _, x := range append(validTracks(), randomTracks(154, 300)...) {
		want := codedBoth(0, -1, impl.OK)
		for i, k := range x.Keys {
			if i == 0 {
				continue
			}
			before := x.Keys[i-1]
			if fast := plainUp(sizeOf(k.Value-before.Value)*1000, k.Time-before.Time); fast > want.second {
				want = codedBoth(int64(i-1), fast, impl.OK)
			}
		}
		if len(x.Keys) == 1 {
			want = codedBoth(0, 0, impl.ErrState)
		}
		checkResult(t, fmt.Sprintf("FastestOf(%v)", x), codedBoth(impl.FastestOf(x)), want)
	}
}

func TestP15SlowTrackCases(t *testing.T) {
	cases := []struct {
		x     impl.Track
		speed int64
		want  []int64
	}{
		{track("dim", 0, 0, 1000, 100, 2000, 200), 50, []int64{0, 0, 2000, 100, 4000, 200}}, {track("dim", 0, 0, 1000, 100, 2000, 200), 100, []int64{0, 0, 1000, 100, 2000, 200}}, {track("dim", 0, 0, 1000, 100, 2000, 200), 99, []int64{0, 0, 1011, 100, 2022, 200}}, {track("dim", 0, 0, 1000, 100, 2000, 200), 1000000, []int64{0, 0, 1000, 100, 2000, 200}},
		{track("a", 5, 7), 1, []int64{5, 7}}, {track("a", 7200000, 7), 1000000, []int64{7200000, 7}}, {track("a", 5, 7, 10, 7, 7200000, 7), 1, []int64{5, 7, 10, 7, 7200000, 7}},
		// An earlier key pushes all later ones, which keep their differences.
		{track("a", 100, 0, 200, 1000, 300, 1000, 450, 1010), 1000, []int64{100, 0, 1100, 1000, 1200, 1000, 1350, 1010}}, {track("a", 100, 0, 200, 0, 300, 1000, 450, 1010), 1000, []int64{100, 0, 200, 0, 1200, 1000, 1350, 1010}}, {track("a", 0, 5, 10, -5, 20, 5, 1000, 0), 100, []int64{0, 5, 100, -5, 200, 5, 1180, 0}}, {track("a", 0, 0, 10, -10, 20, 0), 500, []int64{0, 0, 20, -10, 40, 0}},
		// Quotients that are and are not exact.
		{track("a", 0, 0, 1, 1), 1, []int64{0, 0, 1000, 1}}, {track("a", 0, 0, 1, 1), 3, []int64{0, 0, 334, 1}}, {track("a", 0, 0, 334, 1), 3, []int64{0, 0, 334, 1}}, {track("a", 0, 0, 333, 1), 3, []int64{0, 0, 334, 1}}, {track("a", 0, 0, 1, 1), 999, []int64{0, 0, 2, 1}}, {track("a", 0, 0, 1, 1), 1000, []int64{0, 0, 1, 1}}, {track("a", 0, 0, 1, 1), 1001, []int64{0, 0, 1, 1}}, {track("a", 0, 0, 1, -1), 7, []int64{0, 0, 143, -1}},
		// At the end of a show, and one behind it.
		{track("a", 0, 0, 5, 7200), 1, []int64{0, 0, 7200000, 7200}}, {track("a", 0, 0, 5, 7201), 1, nil}, {track("a", 1, 0, 5, 7200), 1, nil}, {track("a", 0, 0, 1, 1, 7199001, 1), 1, []int64{0, 0, 1000, 1, 7200000, 1}}, {track("a", 0, 0, 1, 1, 7199002, 1), 1, nil}, {track("a", 0, -1000000, 1, 1000000), 1000000, []int64{0, -1000000, 2000, 1000000}}, {track("a", 0, -1000000, 1, 1000000), 1, nil}, {track("a", 0, -1000000, 7200000, 1000000), 278, []int64{0, -1000000, 7200000, 1000000}}, {track("a", 0, -1000000, 7200000, 1000000), 277, nil}, {track("a", 7198000, 0, 7199000, 0, 7199001, 1), 1, []int64{7198000, 0, 7199000, 0, 7200000, 1}}, {track("a", 7198000, 0, 7199001, 0, 7199002, 1), 1, nil}, {track("a", 7199998, 0, 7199999, 2, 7200000, 2), 1000, nil}, {track("a", 0, -1000000, 1, 1000000, 2, -1000000, 3, 1000000), 1, nil},
	}
	for _, c := range cases {
		checkMade(t, fmt.Sprintf("SlowTrack(%v, %d)", c.x, c.speed), codedKeys(impl.SlowTrack(c.x, c.speed)), track(c.x.Name, c.want...))
	}
	for _, x := range validTracks() {
		for _, speed := range []int64{0, -1, 1000001, -1000000, 1 << 32, 1 << 62, minInt, minInt + 1, maxInt} {
			checkResult(t, fmt.Sprintf("SlowTrack(%v, %d)", x, speed), codedKeys(impl.SlowTrack(x, speed)), codedTrack{impl.Track{}, impl.ErrRange})
		}
	}
}

// plainSlow follows the text of the document.
func plainSlow(x impl.Track, speed int64) impl.Track {
	slow := impl.Track{Name: x.Name, Keys: slices.Clone(x.Keys)}
	for i := 1; i < len(x.Keys); i++ {
		a, b := x.Keys[i-1], x.Keys[i]
		before := slow.Keys[i-1].Time
		slow.Keys[i].Time = max(before+b.Time-a.Time, before+plainUp(sizeOf(b.Value-a.Value)*1000, speed))
	}
	return slow
}

func TestP15SlowTracksNeverChangeFaster(t *testing.T) {
	random := rand.New(rand.NewSource(155))
	for _, x := range append(validTracks(), randomTracks(156, 200)...) {
		_, fast, _ := impl.FastestOf(x)
		for _, speed := range []int64{1, 1000000, 1 + random.Int63n(1000), 1 + random.Int63n(1000000), fast, fast - 1, fast + 1} {
			if speed < 1 || speed > 1000000 {
				continue
			}
			call := fmt.Sprintf("SlowTrack(%v, %d)", x, speed)
			slow, code := impl.SlowTrack(x, speed)
			checkMade(t, call, codedKeys(slow, code), plainSlow(x, speed))
			if code != impl.OK {
				continue
			}
			if _, now, _ := impl.FastestOf(slow); now > speed {
				t.Errorf("%s changes by %d in a second", call, now)
			}
			if fast <= speed {
				checkMade(t, call+", which is slow enough", codedKeys(slow, code), x)
			}
			checkMade(t, call+" twice", codedKeys(impl.SlowTrack(slow, speed)), slow)
		}
	}
}

func TestP15NeedlessKeysCases(t *testing.T) {
	cases := []struct {
		x    impl.Track
		want []int64
	}{
		{track("a", 5, 5), nil}, {track("a", 5, 5, 6, 5), nil}, {track("a", 0, 0, 7200000, 0), nil}, {track("a", 0, 5, 10, 5, 20, 5), []int64{1}}, {track("a", 0, 5, 10, 6, 20, 5), nil}, {fewTrack(), nil},
		{track("a", 0, 0, 1000, 100, 2000, 200), []int64{1}}, {track("a", 0, 0, 10, 1, 20, 2, 30, 3, 40, 4), []int64{1, 2, 3}}, {track("a", 0, 0, 10, 1, 20, 2, 30, 4, 40, 6, 50, 8), []int64{1, 3, 4}}, {track("a", 0, 4, 10, 3, 20, 2, 30, 1, 40, 0), []int64{1, 2, 3}}, {track("a", 0, -1000000, 3600000, 0, 7200000, 1000000), []int64{1}},
		// The rounded value, and one beside it.
		{track("a", 0, 0, 1, 1, 2, 1), []int64{1}}, {track("a", 0, 0, 1, 0, 2, 1), nil}, {track("a", 0, 0, 1, -1, 2, -1), []int64{1}}, {track("a", 0, 0, 1, 0, 2, -1), nil}, {track("a", 0, 0, 1, 0, 3, 1), []int64{1}}, {track("a", 0, 0, 2, 1, 3, 1), []int64{1}}, {track("a", 0, 0, 1, 1, 3, 1), nil}, {track("a", 0, 0, 2, 0, 3, 1), nil}, {track("a", 0, 10, 3, 15, 10, 25), []int64{1}}, {track("a", 0, 10, 3, 14, 10, 25), nil}, {track("a", 0, 10, 3, 16, 10, 25), nil}, {track("a", 0, -1000000, 9, -999997, 7200000, 1000000), []int64{1}}, {track("a", 0, -1000000, 9, -999998, 7200000, 1000000), nil}, {track("a", 0, 1000000, 9, 999997, 7200000, -1000000), []int64{1}}, {track("a", 0, 1, 1, 0, 2, 0), []int64{1}}, {track("a", 0, 1, 1, 1, 2, 0), nil},
		// Each is asked for by itself, even if not all of them can be missing.
		{track("a", 0, 0, 1, 1, 2, 1, 3, 1), []int64{1, 2}}, {track("a", 0, 0, 1, 0, 2, 1, 3, 1), []int64{2}}, {track("a", 0, 0, 1, 0, 2, 0, 3, 0), []int64{1, 2}},
	}
	for _, c := range cases {
		checkResult(t, fmt.Sprintf("NeedlessKeys(%v)", c.x), codedMany(impl.NeedlessKeys(c.x)), codedMany(c.want, impl.OK))
	}
	full := track("full")
	for i := range int64(24) {
		full.Keys = append(full.Keys, key(100*i, 3*i))
	}
	checkResult(t, "NeedlessKeys of MaxKeys on a line", codedMany(impl.NeedlessKeys(full)), codedMany(allIndices(24)[1:23], impl.OK))
}

func TestP15NeedlessKeysChangeNothingAtTheirTimes(t *testing.T) {
	for _, x := range append(validTracks(), randomTracks(157, 300)...) {
		want := []int64{}
		for i, k := range x.Keys {
			shorter, _ := impl.DropKey(x, k.Time)
			if i == 0 || i == len(x.Keys)-1 {
				continue
			}
			if value, _ := impl.ValueAt(shorter, k.Time); value == k.Value {
				want = append(want, int64(i))
			}
		}
		checkResult(t, fmt.Sprintf("NeedlessKeys(%v)", x), codedMany(impl.NeedlessKeys(x)), codedMany(want, impl.OK))
	}
}

// Promise 15: texts.

var trackTexts = textForm[impl.Track]{"Track", impl.TrackText, impl.ReadTrack}

func TestP15TrackIsReadBack(t *testing.T) {
	cases := []struct {
		x    impl.Track
		text string
	}{
		{track("dim", 0, 50, 500, 100, 1000, 150), "dim 0:50 500:100 1000:150"}, {track("a", 0, 0), "a 0:0"}, {track("a", 7200000, -1000000), "a 7200000:-1000000"}, {track("a", 0, 1000000), "a 0:1000000"}, {track("abcdefghij", 0, -1000000, 1, -1, 7200000, 1000000), "abcdefghij 0:-1000000 1:-1 7200000:1000000"}, {fewTrack(), "few 100:10 200:30 300:-10"}, {track("z9", 10, 0, 100, 0), "z9 10:0 100:0"},
	}
	for _, c := range cases {
		trackTexts.checkReadBack(t, c.x, c.text)
	}
	for _, x := range append(validTracks(), randomTracks(158, 100)...) {
		text := x.Name
		for _, k := range x.Keys {
			text += fmt.Sprintf(" %d:%d", k.Time, k.Value)
		}
		trackTexts.checkReadBack(t, x, text)
	}
}

func TestP15TrackTextRefuses(t *testing.T) { trackTexts.checkNoTexts(t, invalidTracks()) }

func TestP15ReadTrackRefuses(t *testing.T) {
	texts := []string{
		"a", "a ", "a -", "dim", "0:0", "0:0 a", "a b 0:0", "a 0:0 b", "a a 0:0", "a 0:0 5", "a 5 0:0", "a 5", "a 5 5", "a 5,5", "a 5-5", "a 5;5", "a 5.5", "a:5:5", "a 0:0,5:5", "a5:5",
		// Numbers beyond their ranges.
		"a -1:0", "a 7200001:0", "a 0:1000001", "a 0:-1000001", "a 0:0 7200001:0", "a -1:0 0:0", "a 0:0 5:1000001", "a 9223372036854775807:0", "a 0:-9223372036854775808",
		// Times that do not increase.
		"a 0:0 0:0", "a 5:0 5:1", "a 5:0 4:0", "a 0:0 5:0 5:0", "a 0:0 5:0 4:0 6:0", "a 7200000:0 0:0", "a 10:0 9:0",
		// Colons.
		"a 00", "a :", "a ::", "a 0:", "a :0", "a 0::0", "a 0:0:", "a :0:0", "a 0:0:0", "a 0:0: 5:5", "a 0:0 5", "a 0:0 5:", "a 0:0 :5", "a: 0:0", ":a 0:0", "a 0 :0", "a 0: 0", "a 0 : 0", "a 0：0", "a 0;0", "a 0,0", "a 0.0",
		// Missing or further blanks, and others.
		" a 0:0", "a 0:0 ", "a  0:0", "a 0:0  5:5", "a 0:0 5:5 ", "a0:0", "a 0:05:5", "a\t0:0", "a 0:0\t5:5", "a 0:0\n", "a 0:0\n5:5", "a\u00a00:0", "  0:0", " 0:0", "a 0:0 \x00",
		"a" + strings.Repeat(" 5:5", 10000), "a" + strings.Repeat(" ", 10000), "a 0:" + strings.Repeat("0", 10000), "a " + strings.Repeat(":", 10000),
	}
	for _, number := range append(noNumbers(), "+1", "-0", "01", "-01", "00", "1.0", " 1", "1 ", "\u0661", "4294967297", "18446744073709551617") {
		texts = append(texts, "a "+number+":0", "a 0:"+number, "a 0:0 "+number+":5", "a 0:0 5:"+number, "a "+number)
	}
	for _, name := range invalidNames() {
		texts = append(texts, name+" 0:0", name+" 0:0 5:5")
	}
	full := impl.TrackText(evenTrack(24))
	texts = append(texts, full+" 241:5", full+" 7200000:5", full+" ", full+" 5", strings.Replace(full, "even", "even 5:5", 1))
	trackTexts.checkNotRead(t, append(texts, edgeTexts()...))
}

func TestP15ReadTrackRefusesChangedBytes(t *testing.T) {
	for _, text := range []string{"a9 12:-34 567:8", "abcdefghij 0:1000000 7200000:-1000000", "x 5:5"} {
		trackTexts.checkChanged(t, text)
	}
}
