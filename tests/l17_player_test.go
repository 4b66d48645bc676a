package tests

import (
	"fmt"
	"math/rand"
	"runtime"
	"slices"
	"strconv"
	"strings"
	"testing"
	"time"

	"loop.example/g00955/impl"
)

// codedPlayer is a player with its code.
type codedPlayer struct {
	player impl.Player
	code   int64
}

// codedShow returns a player with its code; cues that are not nil but empty count as nil.
func codedShow(p impl.Player, code int64) codedPlayer {
	if len(p.Cues) == 0 {
		p.Cues = nil
	}
	return codedPlayer{p, code}
}

// codedTick is a result of TickBy.
type codedTick struct {
	player impl.Player
	begun  []string
	code   int64
}

// codedBegun returns a result of TickBy; lists that are not nil but empty count as nil.
func codedBegun(p impl.Player, begun []string, code int64) codedTick {
	return codedTick{codedShow(p, code).player, codedMany(begun, code).list, code}
}

// playerOf returns the player with a word, a Time, a Rate and cues, with slashes before these; it need not be valid.
func playerOf(text string) impl.Player {
	parts := strings.Split(text, "/")
	words, numbers := strings.Fields(parts[0]), []int64{}
	for _, word := range words[1:] {
		n, err := strconv.ParseInt(word, 10, 64)
		if err != nil {
			panic(err)
		}
		numbers = append(numbers, n)
	}
	p := impl.Player{Time: numbers[0], Rate: numbers[1], Playing: words[0] == "play"}
	if len(parts) > 1 {
		p.Cues = cuesOf(parts[1:]...)
	}
	return p
}

// player returns a player of cues that is playing.
func player(list []impl.Cue, time, rate int64) impl.Player {
	return impl.Player{Cues: list, Time: time, Rate: rate, Playing: true}
}

// paused returns a player that differs from p just in that it does not play.
func paused(p impl.Player) impl.Player {
	p.Playing = false
	return p
}

// fewShow are cues in the words of playerOf, with two targets and the end 1500.
const fewShow = "/a 0 sun set 100/b 1000 sun fade 600 500/c 1200 hall set 5"

// sameShow has several cues at one Time, the last ones at its end 7.
const sameShow = "/a 0 x set 5/c 0 x set 6/z 0 y stop/b 7 x set 1/d 7 y set 2/e 7 z set 3"

// plainEnd follows the text of the document.
func plainEnd(list []impl.Cue) int64 {
	end := int64(0)
	for _, c := range list {
		end = max(end, c.Time+c.Length)
	}
	return end
}

// validPlayers play and do not, at the ends of shows, at cues, between them, and at all sorts of rates.
func validPlayers() []impl.Player {
	random, players := rand.New(rand.NewSource(180)), []impl.Player{}
	for _, list := range append(validCueLists(), randomCueLists(181, 20)...) {
		end := plainEnd(list)
		times := []int64{0, end, end / 2, max(end-1, 0), random.Int63n(end + 1)}
		if len(list) > 0 {
			times = append(times, list[random.Intn(len(list))].Time)
		}
		for i, time := range times {
			rate := []int64{100, 4000, 1000, 100 + random.Int63n(3901), 500}[(i+random.Intn(3))%5]
			p := player(list, time, rate)
			if random.Intn(3) == 0 {
				p = paused(p)
			}
			players = append(players, p)
		}
	}
	return players
}

// noRatesOfPlayers are numbers that are not from MinRate to MaxRate.
func noRatesOfPlayers() []int64 {
	return []int64{99, 4001, 0, 1, -1, -100, -1000, 5000, 1 << 32, 1<<32 + 1000, minInt, minInt + 1000, maxInt - 1, maxInt}
}

// invalidPlayers have cues that are not valid, a Time that is not in the show, or another Rate.
func invalidPlayers() []impl.Player {
	players := []impl.Player{{}, {Playing: true}, {Cues: fewCues()}, {Time: 1}, {Cues: []impl.Cue{{}}, Rate: 1000}}
	for i, list := range invalidCueLists() {
		players = append(players, impl.Player{Cues: list, Rate: 1000, Playing: i%2 == 0})
	}
	for i, list := range validCueLists() {
		end := plainEnd(list)
		for k, time := range append(noShowTimes(), end+1, end+1000) {
			players = append(players, impl.Player{Cues: list, Time: time, Rate: 1000, Playing: (i+k)%2 == 0})
		}
		for k, rate := range noRatesOfPlayers() {
			players = append(players, impl.Player{Cues: list, Rate: rate, Playing: (i+k)%2 == 0}, impl.Player{Cues: list, Time: end, Rate: rate, Playing: (i+k)%2 == 1}, impl.Player{Cues: list, Time: end + 1, Rate: rate})
		}
	}
	return players
}

// shownPlayer shows a player with the beginning of its cues.
func shownPlayer(p impl.Player) string {
	return fmt.Sprintf("a player (%s, Time %d, Rate %d, Playing %t)", firstCues(p.Cues), p.Time, p.Rate, p.Playing)
}

// playerCalls are those of all functions that take a player and return a code.
func playerCalls(p impl.Player, n int64) []horizonCall {
	arguments := fmt.Sprintf("(%s, %d)", shownPlayer(p), n)
	return append(rangeCalls(p, n),
		horizonCall{"PlayOn" + arguments, codedShow(impl.PlayOn(p))}, horizonCall{"PauseOn" + arguments, codedShow(impl.PauseOn(p))},
		horizonCall{"LevelsOf" + arguments, codedMany(impl.LevelsOf(p))}, horizonCall{"NextCue" + arguments, coded(impl.NextCue(p))}, horizonCall{"RemainingTime" + arguments, coded(impl.RemainingTime(p))})
}

// rangeCalls are those of all functions that take a player and a number.
func rangeCalls(p impl.Player, n int64) []horizonCall {
	arguments := fmt.Sprintf("(%s, %d)", shownPlayer(p), n)
	return []horizonCall{
		{"SeekTo" + arguments, codedShow(impl.SeekTo(p, n))}, {"SetRate" + arguments, codedShow(impl.SetRate(p, n))}, {"TickBy" + arguments, codedBegun(impl.TickBy(p, n))},
	}
}

// Promise 1, for the functions of chapter 17.

func TestP1PlayersReturnEqualResults(t *testing.T) {
	numbers := slices.Concat(edgeNumbers(), noShowTimes(), []int64{5, 30, 99, 100, 1000, 1500, 4000, 4001, 600000, 600001, 7200000})
	list := append(validPlayers(), invalidPlayers()...)
	for i, p := range list {
		other := list[(7*i+1)%len(list)]
		for k := range 8 {
			n := numbers[(5*i+11*k)%len(numbers)]
			checkRepeats(t, fmt.Sprintf("functions of %s and %d", shownPlayer(p), n), func() []any {
				made := codedShow(impl.NewPlayer(p.Cues))
				return append(resultsOf(playerCalls(p, n)...), impl.ValidPlayer(p), impl.SamePlayer(p, other), made, impl.PlayerText(p))
			})
		}
	}
	for _, s := range edgeTexts() {
		for _, text := range []string{s, "play " + s, "pause 0 " + s, s + " 0 1000", "play 0 1000/" + s, "play 0 1000/a 0 sun set " + s} {
			checkRepeats(t, fmt.Sprintf("functions of the text %.60q", text), func() []any {
				p, ok := impl.ReadPlayer(text)
				named := player([]impl.Cue{{Id: text, Target: "sun", Action: impl.CuSet}}, 0, 1000)
				return append(resultsOf(append(playerCalls(p, 5), playerCalls(named, 5)...)...), p, ok, impl.PlayerText(named))
			})
		}
	}
}

// TestP1PlayersTakeNumbersAtTheEnds calls all functions with pairs of numbers at the ends of int64 and of the ranges.
func TestP1PlayersTakeNumbersAtTheEnds(t *testing.T) {
	numbers := slices.Concat(edgeNumbers(), noShowTimes(), []int64{99, 100, 1000, 4000, 4001, 600000, 600001, 7200000})
	for _, n := range numbers {
		for _, o := range numbers {
			cue := impl.Cue{Id: "a", Time: n, Length: o, Target: "sun", Action: impl.CuFade, Value: 5}
			for _, p := range []impl.Player{player(fewCues(), n, o), player(nil, n, o), player([]impl.Cue{cue}, n, 1000), player([]impl.Cue{cue}, o, n), playerOf("play 5 100" + fewShow), playerOf("play 7200000 4000/a 7200000 sun set 5")} {
				for _, c := range append(playerCalls(p, n), playerCalls(p, o)...) {
					if made, isPlayer := c.result.(codedPlayer); isPlayer && (made.code == impl.OK) != impl.ValidPlayer(made.player) {
						t.Errorf("%s: %v", c.call, made)
					}
					if made, isTick := c.result.(codedTick); isTick && (made.code == impl.OK) != impl.ValidPlayer(made.player) {
						t.Errorf("%s: %v", c.call, made)
					}
				}
				impl.SamePlayer(p, player(nil, o, n))
				impl.NewPlayer(p.Cues)
				impl.PlayerText(p)
			}
		}
	}
}

func TestP1PlayersKeepTheirArguments(t *testing.T) {
	rest := slices.Repeat(cuesOf("x 7 y fade 7 7"), 40)
	list := append(validPlayers(), invalidPlayers()...)
	for i, p := range list {
		other := list[(i+1)%len(list)]
		checkListKept(t, "functions of "+shownPlayer(p), p.Cues, rest, func(cues []impl.Cue) {
			q := p
			q.Cues = cues
			checkListKept(t, "SamePlayer with "+shownPlayer(other), other.Cues, rest, func(o []impl.Cue) { impl.SamePlayer(q, player(o, 0, 1000)) })
			impl.ValidPlayer(q)
			impl.NewPlayer(cues)
			impl.PlayerText(q)
			for _, n := range []int64{-1, 0, 1, 30, 100, 1000, 600000, 7200000} {
				playerCalls(q, n)
			}
			want := p
			want.Cues = cues
			checkResult(t, "the player itself", q, want)
		})
	}
}

// playerMaker is a function that makes a player of another one.
type playerMaker func(p impl.Player) (impl.Player, int64)

func tickOnly(p impl.Player, milli int64) (impl.Player, int64) {
	next, _, code := impl.TickBy(p, milli)
	return next, code
}

func playerMakers() map[string]playerMaker {
	return map[string]playerMaker{
		"NewPlayer":     func(p impl.Player) (impl.Player, int64) { return impl.NewPlayer(p.Cues) },
		"PlayOn":        func(p impl.Player) (impl.Player, int64) { return impl.PlayOn(paused(p)) },
		"PauseOn":       func(p impl.Player) (impl.Player, int64) { return impl.PauseOn(player(p.Cues, p.Time, p.Rate)) },
		"SeekTo 0":      func(p impl.Player) (impl.Player, int64) { return impl.SeekTo(p, 0) },
		"SeekTo itself": func(p impl.Player) (impl.Player, int64) { return impl.SeekTo(p, p.Time) },
		"SetRate":       func(p impl.Player) (impl.Player, int64) { return impl.SetRate(p, 2000) },
		"SetRate same":  func(p impl.Player) (impl.Player, int64) { return impl.SetRate(p, p.Rate) },
		"TickBy 0":      func(p impl.Player) (impl.Player, int64) { return tickOnly(p, 0) },
		"TickBy 5":      func(p impl.Player) (impl.Player, int64) { return tickOnly(p, 5) },
		"TickBy 600000": func(p impl.Player) (impl.Player, int64) { return tickOnly(p, 600000) },
		"TickBy paused": func(p impl.Player) (impl.Player, int64) { return tickOnly(paused(p), 5) },
	}
}

func TestP1PlayersHaveMemoryOfTheirOwn(t *testing.T) {
	other := cueOf("over 8888 over fade 888 88")
	for _, p := range validPlayers() {
		for name, maker := range playerMakers() {
			checkMadeOf(t, name+" of "+shownPlayer(p), other, [][]impl.Cue{p.Cues}, func(cues [][]impl.Cue) []impl.Cue {
				q := p
				q.Cues = cues[0]
				made, code := maker(q)
				return withoutCode(t, made.Cues, code)
			})
		}
	}
}

func TestP1ListsOfPlayersHaveMemoryOfTheirOwn(t *testing.T) {
	for _, p := range validPlayers() {
		whole := slices.Concat(p.Cues, slices.Repeat(cuesOf("x 7 y fade 7 7"), 40))
		p.Cues = whole[:len(p.Cues)]
		before, text := slices.Clone(whole), impl.PlayerText(p)
		kept := func() bool { return slices.Equal(whole, before) }
		for _, milli := range []int64{0, 5, 600000} {
			checkNewList(t, "TickBy of "+shownPlayer(p), "over", func() []string {
				_, begun, code := impl.TickBy(p, milli)
				return withoutCode(t, begun, code)
			}, kept)
		}
		checkNewList(t, "LevelsOf "+shownPlayer(p), impl.Level{Target: "over", Value: 77}, func() []impl.Level {
			levels, code := impl.LevelsOf(p)
			return withoutCode(t, levels, code)
		}, kept)
		checkNewList(t, "ReadPlayer of "+shownPlayer(p), cueOf("over 8888 over fade 888 88"), func() []impl.Cue {
			read, _ := impl.ReadPlayer(text)
			return read.Cues
		}, kept)
	}
}

// TestP1PlayersLeaveNoGoroutineBehind waits for goroutines that may still be on their way out, but not for ones that wait for something themselves.
func TestP1PlayersLeaveNoGoroutineBehind(t *testing.T) {
	before := runtime.NumGoroutine()
	for _, p := range validPlayers() {
		for _, milli := range []int64{0, 1, 5, 30, 600000} {
			impl.TickBy(p, milli)
			impl.TickBy(paused(p), milli)
		}
	}
	for range 1000 {
		if runtime.NumGoroutine() <= before {
			return
		}
		time.Sleep(10 * time.Millisecond)
	}
	t.Errorf("%d goroutines before, and %d behind the calls of TickBy", before, runtime.NumGoroutine())
}

// Promise 18: valid players.

func TestP18PlayerConstants(t *testing.T) {
	checkResult(t, "constants", []int64{impl.MinRate, impl.MaxRate, impl.PlainRate, impl.MaxTick}, []int64{100, 4000, 1000, 600000})
}

func TestP18ValidPlayer(t *testing.T) {
	for _, p := range validPlayers() {
		checkResult(t, "ValidPlayer of "+shownPlayer(p), impl.ValidPlayer(p), true)
		checkResult(t, "ValidPlayer of the paused "+shownPlayer(p), impl.ValidPlayer(paused(p)), true)
	}
	for _, p := range invalidPlayers() {
		checkResult(t, "ValidPlayer of "+shownPlayer(p), impl.ValidPlayer(p), false)
	}
	for count := range 40 {
		checkResult(t, fmt.Sprintf("ValidPlayer of %d cues", count), impl.ValidPlayer(player(evenCues(count), 0, 1000)), count <= 32)
	}
}

func TestP18ValidPlayerAtTheEndsOfItsRanges(t *testing.T) {
	times, rates := append(edgeNumbers(), noShowTimes()...), append(edgeNumbers(), noRatesOfPlayers()...)
	for _, list := range [][]impl.Cue{nil, {}, fewCues(), evenCues(32), cuesOf("a 5 x set 5"), cuesOf("a 0 x fade 5 7200000"), cuesOf("a 5 x fade 5 10", "b 6 y set 7")} {
		end := plainEnd(list)
		for _, time := range append(times, end-1, end, end+1, end/2, end+100) {
			p := player(list, time, 1000)
			checkResult(t, "ValidPlayer of "+shownPlayer(p), impl.ValidPlayer(p), time >= 0 && time <= end)
		}
		for _, rate := range append(rates, 99, 100, 101, 1000, 3999, 4000, 4001) {
			p := paused(player(list, end, rate))
			checkResult(t, "ValidPlayer of "+shownPlayer(p), impl.ValidPlayer(p), rate >= 100 && rate <= 4000)
		}
	}
}

func checkSamePlayer(t *testing.T, a, b impl.Player, want bool) {
	t.Helper()
	checkResult(t, fmt.Sprintf("SamePlayer(%.300q, %.300q)", fmt.Sprint(a), fmt.Sprint(b)), impl.SamePlayer(a, b), want)
	checkResult(t, fmt.Sprintf("SamePlayer(%.300q, %.300q)", fmt.Sprint(b), fmt.Sprint(a)), impl.SamePlayer(b, a), want)
}

// otherPlayers are players that differ from p in one field each, apart from its cues.
func otherPlayers(p impl.Player) []impl.Player {
	list := slices.Repeat([]impl.Player{p}, 5)
	list[0].Time++
	list[1].Time -= 1000
	list[2].Rate++
	list[3].Rate = -p.Rate - 1
	list[4].Playing = !p.Playing
	return list
}

func TestP18SamePlayer(t *testing.T) {
	checkSamePlayer(t, impl.Player{}, impl.Player{Cues: []impl.Cue{}}, true)
	checkSamePlayer(t, player(nil, 7, 8), player([]impl.Cue{}, 7, 8), true)
	checkSamePlayer(t, player(nil, 7, 8), player(nil, 8, 7), false)
	for _, p := range append(validPlayers(), invalidPlayers()...) {
		same := p
		same.Cues = slices.Clone(p.Cues)
		checkSamePlayer(t, p, same, true)
		for _, other := range otherPlayers(same) {
			checkSamePlayer(t, p, other, false)
		}
	}
}

func TestP18SamePlayerOfOtherCues(t *testing.T) {
	lists := slices.Concat(validCueLists(), invalidCueLists()[:100], [][]impl.Cue{invalidCues(), cuesOf("b 5 x set 5", "a 5 x set 5", "a 5 x set 5")})
	for _, p := range []impl.Player{{}, player(nil, 0, 1000), paused(player(nil, 5, 100)), player(nil, minInt, maxInt)} {
		same := func(a, b []impl.Cue) bool {
			p, q := p, p
			p.Cues, q.Cues = a, b
			return impl.SamePlayer(p, q)
		}
		sameForm[impl.Cue]{"SamePlayer of cues", same, otherCues}.checkLists(t, lists)
	}
}

func TestP18InvalidPlayersAreRefusedFirst(t *testing.T) {
	for _, p := range invalidPlayers() {
		for _, n := range []int64{0, 5, 100, 1000, 4000, 600000, -1, 600001, 7200001, minInt, maxInt} {
			checkRefused(t, playerCalls(p, n), impl.ErrInvalid)
		}
	}
}

// Promise 18: players that are made and changed.

func TestP18NewPlayer(t *testing.T) {
	for _, list := range append(validCueLists(), evenCues(31), evenCues(32)) {
		want := codedShow(impl.Player{Cues: list, Rate: 1000}, impl.OK)
		checkResult(t, fmt.Sprintf("NewPlayer(%v)", list), codedShow(impl.NewPlayer(list)), want)
	}
	for _, list := range invalidCueLists() {
		checkRefused(t, []horizonCall{{fmt.Sprintf("NewPlayer(%.300q)", fmt.Sprint(list)), codedShow(impl.NewPlayer(list))}}, impl.ErrInvalid)
	}
}

func TestP18PlayOnAndPauseOn(t *testing.T) {
	for _, p := range validPlayers() {
		on, off := player(p.Cues, p.Time, p.Rate), paused(p)
		checkResult(t, "PlayOn of "+shownPlayer(off), codedShow(impl.PlayOn(off)), codedShow(on, impl.OK))
		checkResult(t, "PauseOn of "+shownPlayer(on), codedShow(impl.PauseOn(on)), codedShow(off, impl.OK))
		checkRefused(t, []horizonCall{{"PlayOn of " + shownPlayer(on), codedShow(impl.PlayOn(on))}, {"PauseOn of " + shownPlayer(off), codedShow(impl.PauseOn(off))}}, impl.ErrState)
		played, _ := impl.PlayOn(off)
		checkResult(t, "PauseOn behind PlayOn of "+shownPlayer(off), codedShow(impl.PauseOn(played)), codedShow(off, impl.OK))
		stopped, _ := impl.PauseOn(on)
		checkResult(t, "PlayOn behind PauseOn of "+shownPlayer(on), codedShow(impl.PlayOn(stopped)), codedShow(on, impl.OK))
	}
}

func TestP18SeekTo(t *testing.T) {
	for _, p := range validPlayers() {
		end := plainEnd(p.Cues)
		for _, time := range []int64{0, min(1, end), end / 3, max(end-1, 0), end, p.Time} {
			want := p
			want.Time = time
			checkResult(t, fmt.Sprintf("SeekTo(%s, %d)", shownPlayer(p), time), codedShow(impl.SeekTo(p, time)), codedShow(want, impl.OK))
		}
		for _, time := range append(noShowTimes(), end+1, end+1000) {
			checkRefused(t, []horizonCall{{fmt.Sprintf("SeekTo(%s, %d)", shownPlayer(p), time), codedShow(impl.SeekTo(p, time))}}, impl.ErrRange)
		}
	}
}

func TestP18SetRate(t *testing.T) {
	for _, p := range validPlayers() {
		for _, rate := range []int64{100, 101, 999, 1000, 1001, 3999, 4000, p.Rate} {
			want := p
			want.Rate = rate
			checkResult(t, fmt.Sprintf("SetRate(%s, %d)", shownPlayer(p), rate), codedShow(impl.SetRate(p, rate)), codedShow(want, impl.OK))
		}
		for _, rate := range noRatesOfPlayers() {
			checkRefused(t, []horizonCall{{fmt.Sprintf("SetRate(%s, %d)", shownPlayer(p), rate), codedShow(impl.SetRate(p, rate))}}, impl.ErrRange)
		}
	}
}

// Promise 18: ticks.

func TestP18TickByCases(t *testing.T) {
	cases := []struct {
		player string
		milli  int64
		want   string
		begun  string
	}{
		// Cues at the new Time do not begin yet, and those at the old one do.
		{"play 0 1000" + fewShow, 0, "play 0 1000", ""}, {"play 0 1000" + fewShow, 1, "play 1 1000", "a"}, {"play 0 1000" + fewShow, 999, "play 999 1000", "a"}, {"play 0 1000" + fewShow, 1000, "play 1000 1000", "a"}, {"play 0 1000" + fewShow, 1001, "play 1001 1000", "a b"}, {"play 0 1000" + fewShow, 1200, "play 1200 1000", "a b"}, {"play 0 1000" + fewShow, 1201, "play 1201 1000", "a b c"},
		{"play 1 1000" + fewShow, 0, "play 1 1000", ""}, {"play 1 1000" + fewShow, 998, "play 999 1000", ""}, {"play 1 1000" + fewShow, 999, "play 1000 1000", ""}, {"play 1 1000" + fewShow, 1000, "play 1001 1000", "b"}, {"play 999 1000" + fewShow, 1, "play 1000 1000", ""}, {"play 999 1000" + fewShow, 2, "play 1001 1000", "b"}, {"play 1000 1000" + fewShow, 0, "play 1000 1000", ""}, {"play 1000 1000" + fewShow, 1, "play 1001 1000", "b"}, {"play 1000 1000" + fewShow, 200, "play 1200 1000", "b"}, {"play 1000 1000" + fewShow, 201, "play 1201 1000", "b c"}, {"play 1001 1000" + fewShow, 199, "play 1200 1000", ""}, {"play 1001 1000" + fewShow, 200, "play 1201 1000", "c"}, {"play 1200 1000" + fewShow, 1, "play 1201 1000", "c"}, {"play 1201 1000" + fewShow, 1, "play 1202 1000", ""},
		// Just before the end, at it, and beyond it.
		{"play 0 1000" + fewShow, 1499, "play 1499 1000", "a b c"}, {"play 0 1000" + fewShow, 1500, "pause 1500 1000", "a b c"}, {"play 0 1000" + fewShow, 1501, "pause 1500 1000", "a b c"}, {"play 0 1000" + fewShow, 600000, "pause 1500 1000", "a b c"}, {"play 1000 1000" + fewShow, 600000, "pause 1500 1000", "b c"}, {"play 1200 1000" + fewShow, 299, "play 1499 1000", "c"}, {"play 1200 1000" + fewShow, 300, "pause 1500 1000", "c"}, {"play 1201 1000" + fewShow, 298, "play 1499 1000", ""}, {"play 1201 1000" + fewShow, 299, "pause 1500 1000", ""}, {"play 1499 1000" + fewShow, 0, "play 1499 1000", ""}, {"play 1499 1000" + fewShow, 1, "pause 1500 1000", ""}, {"play 1500 1000" + fewShow, 0, "pause 1500 1000", ""}, {"play 1500 4000" + fewShow, 600000, "pause 1500 4000", ""},
		{"play 0 1000/a 5 x set 5", 4, "play 4 1000", ""}, {"play 0 1000/a 5 x set 5", 5, "pause 5 1000", "a"}, {"play 5 1000/a 5 x set 5", 0, "pause 5 1000", "a"}, {"play 5 1000/a 5 x set 5", 7, "pause 5 1000", "a"}, {"play 0 1000/a 0 x set 5", 0, "pause 0 1000", "a"}, {"play 0 1000/a 0 x set 5/b 0 y stop", 1, "pause 0 1000", "a b"},
		{"play 5 1000/a 5 x fade 5 10/b 15 y set 5", 9, "play 14 1000", "a"}, {"play 5 1000/a 5 x fade 5 10/b 15 y set 5", 10, "pause 15 1000", "a b"}, {"play 6 1000/a 5 x fade 5 10/b 15 y set 5", 8, "play 14 1000", ""}, {"play 6 1000/a 5 x fade 5 10/b 15 y set 5", 9, "pause 15 1000", "b"}, {"play 15 1000/a 5 x fade 5 10/b 15 y set 5", 0, "pause 15 1000", "b"}, {"play 15 1000/a 5 x fade 5 10/b 14 y set 5", 0, "pause 15 1000", ""},
		// Several cues at one Time.
		{"play 0 1000" + sameShow, 0, "play 0 1000", ""}, {"play 0 1000" + sameShow, 1, "play 1 1000", "a c z"}, {"play 0 1000" + sameShow, 6, "play 6 1000", "a c z"}, {"play 0 1000" + sameShow, 7, "pause 7 1000", "a c z b d e"}, {"play 1 1000" + sameShow, 5, "play 6 1000", ""}, {"play 1 1000" + sameShow, 6, "pause 7 1000", "b d e"}, {"play 7 1000" + sameShow, 0, "pause 7 1000", "b d e"}, {"play 0 1000" + sameShow + "/f 8 x stop", 7, "play 7 1000", "a c z"}, {"play 7 1000" + sameShow + "/f 9 x stop", 1, "play 8 1000", "b d e"}, {"play 1 1000" + sameShow + "/f 9 x stop", 7, "play 8 1000", "b d e"},
		// Quotients that are exact, and ones that are rounded down.
		{"play 0 100" + fewShow, 9, "play 0 100", ""}, {"play 0 100" + fewShow, 10, "play 1 100", "a"}, {"play 0 100" + fewShow, 19, "play 1 100", "a"}, {"play 0 100" + fewShow, 20, "play 2 100", "a"}, {"play 0 100" + fewShow, 10009, "play 1000 100", "a"}, {"play 0 100" + fewShow, 10010, "play 1001 100", "a b"}, {"play 0 100" + fewShow, 14999, "play 1499 100", "a b c"}, {"play 0 100" + fewShow, 15000, "pause 1500 100", "a b c"},
		{"play 0 4000" + fewShow, 1, "play 4 4000", "a"}, {"play 0 4000" + fewShow, 250, "play 1000 4000", "a"}, {"play 0 4000" + fewShow, 251, "play 1004 4000", "a b"}, {"play 0 4000" + fewShow, 374, "play 1496 4000", "a b c"}, {"play 0 4000" + fewShow, 375, "pause 1500 4000", "a b c"}, {"play 1 4000" + fewShow, 375, "pause 1500 4000", "b c"},
		{"play 0 333" + fewShow, 3, "play 0 333", ""}, {"play 0 333" + fewShow, 4, "play 1 333", "a"}, {"play 0 333" + fewShow, 3003, "play 999 333", "a"}, {"play 0 333" + fewShow, 3004, "play 1000 333", "a"}, {"play 0 333" + fewShow, 3006, "play 1000 333", "a"}, {"play 0 333" + fewShow, 3007, "play 1001 333", "a b"}, {"play 3 1500" + fewShow, 1, "play 4 1500", ""}, {"play 3 1500" + fewShow, 2, "play 6 1500", ""}, {"play 999 1999" + fewShow, 1, "play 1000 1999", ""}, {"play 1498 999" + fewShow, 2, "play 1499 999", ""}, {"play 1498 999" + fewShow, 3, "pause 1500 999", ""}, {"play 0 999" + fewShow, 1, "play 0 999", ""}, {"play 0 1001" + fewShow, 999, "play 999 1001", "a"}, {"play 0 1001" + fewShow, 1000, "play 1001 1001", "a b"},
		{"play 0 2000/a 1000 sun set 5", 499, "play 998 2000", ""}, {"play 0 2000/a 1000 sun set 5", 500, "pause 1000 2000", "a"}, {"play 1 2000/a 1000 sun set 5", 499, "play 999 2000", ""},
		// The longest shows.
		{"play 7199999 1000/a 7200000 x set 5", 0, "play 7199999 1000", ""}, {"play 7199999 1000/a 7200000 x set 5", 1, "pause 7200000 1000", "a"}, {"play 7199999 100/a 7200000 x set 5", 9, "play 7199999 100", ""}, {"play 0 4000/a 7200000 x set 5", 600000, "play 2400000 4000", ""}, {"play 4800000 4000/a 7200000 x set 5", 599999, "play 7199996 4000", ""}, {"play 4800000 4000/a 7200000 x set 5", 600000, "pause 7200000 4000", "a"}, {"play 7200000 4000/a 7200000 x set 5", 600000, "pause 7200000 4000", "a"}, {"play 6600000 1000/a 7200000 x set 5", 599999, "play 7199999 1000", ""}, {"play 6600000 1000/a 7200000 x set 5", 600000, "pause 7200000 1000", "a"}, {"play 0 100/a 0 x fade 5 7200000", 600000, "play 60000 100", "a"},
		// Without cues, at once at the end; and players that do not play.
		{"play 0 1000", 0, "pause 0 1000", ""}, {"play 0 1000", 600000, "pause 0 1000", ""}, {"play 0 4000", 5, "pause 0 4000", ""}, {"pause 0 1000", 5, "pause 0 1000", ""},
		{"pause 0 1000" + fewShow, 0, "pause 0 1000", ""}, {"pause 0 1000" + fewShow, 1, "pause 0 1000", ""}, {"pause 0 4000" + fewShow, 600000, "pause 0 4000", ""}, {"pause 1000 1000" + fewShow, 1, "pause 1000 1000", ""}, {"pause 1500 1000" + fewShow, 1, "pause 1500 1000", ""}, {"pause 7 1000" + sameShow, 0, "pause 7 1000", ""}, {"pause 7 1000" + sameShow, 600000, "pause 7 1000", ""},
	}
	for _, c := range cases {
		p, want := playerOf(c.player), playerOf(c.want)
		want.Cues = p.Cues
		checkResult(t, fmt.Sprintf("TickBy(%s, %d)", c.player, c.milli), codedBegun(impl.TickBy(p, c.milli)), codedBegun(want, strings.Fields(c.begun), impl.OK))
	}
}

func TestP18TickByRefuses(t *testing.T) {
	for _, p := range validPlayers() {
		for _, milli := range []int64{-1, 600001, -600000, -1000, 1000000, 7200000, 1 << 32, 1 << 62, minInt, minInt + 1, maxInt - 1, maxInt} {
			checkRefused(t, []horizonCall{{fmt.Sprintf("TickBy(%s, %d)", shownPlayer(p), milli), codedBegun(impl.TickBy(p, milli))}}, impl.ErrRange)
		}
	}
}

// plainTick follows the text of the document.
func plainTick(p impl.Player, milli int64) codedTick {
	if !p.Playing {
		return codedBegun(p, nil, impl.OK)
	}
	end, next, begun := plainEnd(p.Cues), p.Time+milli*p.Rate/1000, []string{}
	for _, c := range p.Cues {
		if c.Time >= p.Time && (next >= end || c.Time < next) {
			begun = append(begun, c.Id)
		}
	}
	if next >= end {
		return codedBegun(paused(player(p.Cues, end, p.Rate)), begun, impl.OK)
	}
	return codedBegun(player(p.Cues, next, p.Rate), begun, impl.OK)
}

// ticksOf are lengths of ticks around those that lead a player to a cue or to the end.
func ticksOf(random *rand.Rand, p impl.Player) []int64 {
	ticks := []int64{0, 1, 599999, 600000, random.Int63n(100), random.Int63n(600001)}
	for _, time := range append([]int64{plainEnd(p.Cues)}, timesOf(p.Cues)...) {
		tick := (time - p.Time) * 1000 / p.Rate
		ticks = append(ticks, tick-1, tick, tick+1, tick+2)
	}
	return slices.DeleteFunc(ticks, func(milli int64) bool { return milli < 0 || milli > 600000 })
}

func timesOf(list []impl.Cue) []int64 {
	times := []int64{}
	for _, c := range list {
		times = append(times, c.Time)
	}
	return times
}

func TestP18TickByEverywhere(t *testing.T) {
	random := rand.New(rand.NewSource(182))
	for _, p := range slices.Repeat(validPlayers(), 5) {
		p.Rate = []int64{p.Rate, p.Rate, 100 + random.Int63n(3901)}[random.Intn(3)]
		for _, milli := range ticksOf(random, p) {
			got := codedBegun(impl.TickBy(p, milli))
			checkResult(t, fmt.Sprintf("TickBy(%s, %d)", shownPlayer(p), milli), got, plainTick(p, milli))
			checkResult(t, fmt.Sprintf("ValidPlayer behind TickBy(%s, %d)", shownPlayer(p), milli), impl.ValidPlayer(got.player), true)
		}
	}
}

// ticked returns the results of ticks one behind the other as one: the last player, and all cues that have begun.
func ticked(t *testing.T, p impl.Player, ticks []int64) codedTick {
	t.Helper()
	all := []string{}
	for _, milli := range ticks {
		next, begun, code := impl.TickBy(p, milli)
		checkResult(t, fmt.Sprintf("the code of TickBy(%s, %d)", shownPlayer(p), milli), code, impl.OK)
		p, all = next, append(all, begun...)
	}
	return codedBegun(p, all, impl.OK)
}

// exactTick returns the least number of milliseconds above 0 whose quotient is exact at a rate.
func exactTick(rate int64) int64 {
	for milli := int64(1); ; milli++ {
		if milli*rate%1000 == 0 {
			return milli
		}
	}
}

// exactParts returns lengths of ticks whose quotients are exact, at most 600000 in all.
func exactParts(random *rand.Rand, p impl.Player) []int64 {
	exact, left, parts := exactTick(p.Rate), min(600000, plainEnd(p.Cues)*2000/p.Rate+2000), []int64{}
	for range 1 + random.Intn(12) {
		part := random.Int63n(left/2+1) / exact * exact
		if random.Intn(3) == 0 {
			part = min(part, exact*random.Int63n(4))
		}
		parts, left = append(parts, part), left-part
	}
	return parts
}

func TestP18TicksInPartsBeginTheSameCues(t *testing.T) {
	random, ends, several := rand.New(rand.NewSource(183)), 0, 0
	for _, p := range slices.Repeat(validPlayers(), 20) {
		p.Rate = []int64{p.Rate, 1000, 2000, 4000, 100, 250, 100 + random.Int63n(3901)}[random.Intn(7)]
		parts, sum := exactParts(random, p), int64(0)
		for _, part := range parts {
			sum += part
		}
		whole := codedBegun(impl.TickBy(p, sum))
		checkResult(t, fmt.Sprintf("TickBy of %s in the parts %v", shownPlayer(p), parts), ticked(t, p, parts), whole)
		if p.Playing && !whole.player.Playing {
			ends++
		}
		if len(whole.begun) > 1 {
			several++
		}
	}
	if ends < 500 || several < 500 {
		t.Errorf("only %d players came to their end, and %d began several cues", ends, several)
	}
}

// TestP18TicksBeginEachCueOnce lets players play up to their end in ticks of all lengths, also ones whose quotients are rounded down.
func TestP18TicksBeginEachCueOnce(t *testing.T) {
	random := rand.New(rand.NewSource(184))
	for _, list := range randomCueLists(185, 200) {
		p, all := player(list, 0, 100+random.Int63n(3901)), []string{}
		for p.Playing {
			milli := []int64{random.Int63n(60), random.Int63n(5), 590000 + random.Int63n(10001)}[min(random.Intn(20), 2)]
			next, begun, _ := impl.TickBy(p, milli)
			p, all = next, append(all, begun...)
		}
		want := []string{}
		for _, c := range list {
			want = append(want, c.Id)
		}
		checkResult(t, fmt.Sprintf("cues that begin in %v", list), codedBegun(p, all, impl.OK), codedBegun(paused(player(list, plainEnd(list), p.Rate)), want, impl.OK))
	}
}

// Promise 18: levels.

// levelsOf returns levels of targets and their values, separated by blanks.
func levelsOf(text string) []impl.Level {
	words, levels := strings.Fields(text), []impl.Level{}
	for i := 0; i < len(words); i += 2 {
		value, err := strconv.ParseInt(words[i+1], 10, 64)
		if err != nil {
			panic(err)
		}
		levels = append(levels, impl.Level{Target: words[i], Value: value})
	}
	return levels
}

func TestP18LevelsOfCases(t *testing.T) {
	cases := []struct{ player, want string }{
		{"play 0 1000", ""}, {"pause 0 100", ""}, {"play 0 1000/a 0 sun stop", "sun 0"}, {"play 0 1000/a 0 sun set 7", "sun 7"}, {"play 4 1000/a 5 sun set 7", "sun 0"}, {"play 5 1000/a 5 sun set 7", "sun 7"},
		{"play 0 1000" + fewShow, "hall 0 sun 100"}, {"play 999 1000" + fewShow, "hall 0 sun 100"}, {"play 1000 1000" + fewShow, "hall 0 sun 100"}, {"play 1001 1000" + fewShow, "hall 0 sun 101"}, {"pause 1100 4000" + fewShow, "hall 0 sun 200"}, {"play 1199 1000" + fewShow, "hall 0 sun 299"}, {"play 1200 1000" + fewShow, "hall 5 sun 300"}, {"play 1250 1000" + fewShow, "hall 5 sun 350"}, {"play 1499 1000" + fewShow, "hall 5 sun 599"}, {"play 1500 1000" + fewShow, "hall 5 sun 600"},
		{"play 0 1000" + sameShow, "x 6 y 0 z 0"}, {"play 6 1000" + sameShow, "x 6 y 0 z 0"}, {"pause 7 1000" + sameShow, "x 1 y 2 z 3"}, {"play 5 1000/a 5 x set 1/b 5 x set 2/c 5 x set 3", "x 3"}, {"play 10 1000/a 0 x fade 1000 20/b 10 x stop/c 10 y fade 500 10", "x 0 y 0"}, {"play 20 1000/a 0 x fade 1000 20/b 10 x stop/c 10 y fade 500 10", "x 0 y 500"}, {"play 9 1000/a 0 x fade 1000 20/b 10 x stop/c 10 y fade 500 10", "x 450 y 0"},
		{"play 7200000 1000/a 0 x fade 1000 7200000/b 7200000 a stop", "a 0 x 1000"}, {"play 3600 1000/a 0 x fade 1000 7200000", "x 1"}, {"play 3599 1000/a 0 x fade 1000 7200000", "x 0"}, {"play 0 1000/a 0 b9 set 1/b 0 b10 set 2/c 0 aa set 3/d 0 a set 4", "a 4 aa 3 b10 2 b9 1"},
	}
	for _, c := range cases {
		checkResult(t, "LevelsOf "+c.player, codedMany(impl.LevelsOf(playerOf(c.player))), codedMany(levelsOf(c.want), impl.OK))
	}
}

// plainLevels follows the text of the document.
func plainLevels(p impl.Player) codedList[impl.Level] {
	targets, levels := []string{}, []impl.Level{}
	for _, c := range p.Cues {
		targets = append(targets, c.Target)
	}
	slices.Sort(targets)
	for _, target := range slices.Compact(targets) {
		levels = append(levels, impl.Level{Target: target, Value: plainLevel(p.Cues, target, p.Time)})
	}
	return codedMany(levels, impl.OK)
}

func TestP18LevelsEverywhere(t *testing.T) {
	for _, p := range validPlayers() {
		end := plainEnd(p.Cues)
		for _, time := range append(timesOf(p.Cues), 0, 1, 30, 31, end/2, end-1, end, p.Time) {
			q := p
			q.Time = min(max(time, 0), end)
			checkResult(t, "LevelsOf "+shownPlayer(q), codedMany(impl.LevelsOf(q)), plainLevels(q))
		}
	}
}

// playedUpTo returns a player at a time that has played up to it from the beginning.
func playedUpTo(t *testing.T, random *rand.Rand, list []impl.Cue, time int64) impl.Player {
	t.Helper()
	p, _ := impl.NewPlayer(list)
	p, _ = impl.PlayOn(p)
	for p.Time < time {
		milli := min(time-p.Time, []int64{random.Int63n(20), 600000}[random.Intn(2)])
		next, _, code := impl.TickBy(p, milli)
		checkResult(t, "the code of TickBy", code, impl.OK)
		p = next
	}
	return p
}

func TestP18APlayerThatSeeksHasTheLevelsOfOneThatPlays(t *testing.T) {
	random := rand.New(rand.NewSource(186))
	for _, list := range slices.Concat(validCueLists(), randomCueLists(187, 100)) {
		end := plainEnd(list)
		for _, time := range append(timesOf(list), 0, end/2, end, random.Int63n(end+1)) {
			start, _ := impl.NewPlayer(list)
			sought, code := impl.SeekTo(start, time)
			checkResult(t, "the code of SeekTo", code, impl.OK)
			played := playedUpTo(t, random, list, time)
			checkResult(t, fmt.Sprintf("Time of the player of %v that has played up to %d", list, time), played.Time, time)
			checkResult(t, fmt.Sprintf("LevelsOf the player of %v that has sought %d", list, time), codedMany(impl.LevelsOf(sought)), codedMany(impl.LevelsOf(played)))
		}
	}
}

// Promise 18: what comes next.

func TestP18NextCueCases(t *testing.T) {
	cases := []struct {
		player string
		want   codedNumber
	}{
		{"play 0 1000" + fewShow, coded(0, impl.OK)}, {"pause 0 1000" + fewShow, coded(0, impl.OK)}, {"play 1 1000" + fewShow, coded(1, impl.OK)}, {"play 999 1000" + fewShow, coded(1, impl.OK)}, {"play 1000 1000" + fewShow, coded(1, impl.OK)}, {"play 1001 4000" + fewShow, coded(2, impl.OK)}, {"play 1200 1000" + fewShow, coded(2, impl.OK)}, {"play 1201 1000" + fewShow, coded(0, impl.ErrNotFound)}, {"pause 1500 1000" + fewShow, coded(0, impl.ErrNotFound)},
		{"play 0 1000" + sameShow, coded(0, impl.OK)}, {"play 1 1000" + sameShow, coded(3, impl.OK)}, {"play 6 1000" + sameShow, coded(3, impl.OK)}, {"play 7 1000" + sameShow, coded(3, impl.OK)}, {"play 0 1000", coded(0, impl.ErrNotFound)}, {"pause 0 1000", coded(0, impl.ErrNotFound)},
		{"play 0 1000/a 7200000 x stop", coded(0, impl.OK)}, {"play 7200000 1000/a 7200000 x stop", coded(0, impl.OK)}, {"play 1 1000/a 0 x fade 5 7200000", coded(0, impl.ErrNotFound)}, {"play 7200000 1000/a 0 x fade 5 7200000/b 7200000 x stop", coded(1, impl.OK)},
	}
	for _, c := range cases {
		checkResult(t, "NextCue of "+c.player, coded(impl.NextCue(playerOf(c.player))), c.want)
	}
	for _, p := range validPlayers() {
		want := coded(0, impl.ErrNotFound)
		if i := slices.IndexFunc(p.Cues, func(c impl.Cue) bool { return c.Time >= p.Time }); i >= 0 {
			want = coded(int64(i), impl.OK)
		}
		checkResult(t, "NextCue of "+shownPlayer(p), coded(impl.NextCue(p)), want)
		checkResult(t, "NextCue of the paused "+shownPlayer(p), coded(impl.NextCue(paused(p))), want)
	}
}

func TestP18RemainingTimeCases(t *testing.T) {
	cases := []struct {
		player string
		want   int64
	}{
		{"play 0 1000" + fewShow, 1500}, {"pause 0 1000" + fewShow, 1500}, {"play 1 1000" + fewShow, 1499}, {"play 1250 1000" + fewShow, 250}, {"play 1499 1000" + fewShow, 1}, {"play 1500 1000" + fewShow, 0}, {"pause 1500 100" + fewShow, 0}, {"play 1500 4000" + fewShow, 0},
		{"play 0 100" + fewShow, 15000}, {"play 0 4000" + fewShow, 375}, {"play 1 4000" + fewShow, 375}, {"play 4 4000" + fewShow, 374}, {"play 3 4000" + fewShow, 375}, {"play 1499 4000" + fewShow, 1}, {"play 1499 100" + fewShow, 10}, {"play 1250 3000" + fewShow, 84}, {"play 0 3000" + fewShow, 500}, {"play 0 999" + fewShow, 1502}, {"play 0 1001" + fewShow, 1499}, {"play 501 999" + fewShow, 1000}, {"play 499 1001" + fewShow, 1000}, {"play 1499 999" + fewShow, 2}, {"play 1499 1001" + fewShow, 1},
		{"play 0 2000/a 1000 sun set 5", 500}, {"play 0 1000", 0}, {"pause 0 100", 0}, {"play 0 4000", 0}, {"play 0 1000/a 0 x stop", 0}, {"play 0 1000/a 7200000 x stop", 7200000}, {"play 0 100/a 7200000 x stop", 72000000}, {"play 0 4000/a 7200000 x stop", 1800000}, {"play 0 101/a 7200000 x stop", 71287129}, {"play 0 3999/a 7200000 x stop", 1800451}, {"play 7199999 101/a 7200000 x stop", 10}, {"play 7200000 101/a 7200000 x stop", 0},
	}
	for _, c := range cases {
		checkResult(t, "RemainingTime of "+c.player, coded(impl.RemainingTime(playerOf(c.player))), coded(c.want, impl.OK))
	}
	for _, p := range validPlayers() {
		want := coded(plainUp((plainEnd(p.Cues)-p.Time)*1000, p.Rate), impl.OK)
		checkResult(t, "RemainingTime of "+shownPlayer(p), coded(impl.RemainingTime(p)), want)
		checkResult(t, "RemainingTime of the paused "+shownPlayer(p), coded(impl.RemainingTime(paused(p))), want)
	}
}

// longTicks divides a time into ticks of MaxTick, whose quotients are exact at all rates, and the rest.
func longTicks(milli int64) []int64 {
	ticks := slices.Repeat([]int64{600000}, int(milli/600000))
	return append(ticks, milli%600000)
}

func TestP18APlayerIsAtItsEndBehindItsRemainingTime(t *testing.T) {
	random := rand.New(rand.NewSource(188))
	for _, p := range slices.Repeat(validPlayers(), 4) {
		p = player(p.Cues, p.Time, []int64{p.Rate, 100 + random.Int63n(3901)}[random.Intn(2)])
		end := plainEnd(p.Cues)
		remaining, code := impl.RemainingTime(p)
		checkResult(t, "the code of RemainingTime of "+shownPlayer(p), code, impl.OK)
		behind := ticked(t, p, longTicks(remaining)).player
		checkResult(t, fmt.Sprintf("%s behind its RemainingTime", shownPlayer(p)), codedShow(behind, code), codedShow(paused(player(p.Cues, end, p.Rate)), impl.OK))
		if p.Time == end {
			checkResult(t, fmt.Sprintf("RemainingTime of %s at its end", shownPlayer(p)), remaining, 0)
			continue
		}
		before := ticked(t, p, longTicks(remaining-1)).player
		if before.Time >= end || !before.Playing {
			t.Errorf("%s is at its end before its RemainingTime %d", shownPlayer(p), remaining)
		}
	}
}

// Promise 18: texts.

// playerTexts reads cues that are not nil but empty as nil.
var playerTexts = textForm[impl.Player]{"Player", impl.PlayerText, func(s string) (impl.Player, bool) {
	p, ok := impl.ReadPlayer(s)
	return codedShow(p, impl.OK).player, ok
}}

func TestP18PlayerIsReadBack(t *testing.T) {
	for _, text := range []string{
		"play 0 1000", "pause 0 1000", "play 0 100", "pause 0 4000", "play 0 2000/a 1000 sun set 5", "play 1000 2000/a 1000 sun set 5", "play 0 1000" + fewShow, "pause 1500 4000" + fewShow, "play 1499 100" + fewShow, "pause 7 333" + sameShow,
		"play 7200000 4000/a 7200000 sun stop", "pause 7200000 100/a 0 sun fade 1000 7200000", "play 0 1000/a 0 sun stop", "pause 5 999/play 5 pause stop", "play 5 1001/pause 5 play set 1000", "play 0 3999/a123456789 7200000 z123456789 set 1000",
	} {
		playerTexts.checkReadBack(t, playerOf(text), text)
	}
	for _, p := range append(validPlayers(), player(evenCues(32), 31, 4000), paused(player(evenCues(32), 0, 100))) {
		text := map[bool]string{true: "play", false: "pause"}[p.Playing] + fmt.Sprintf(" %d %d", p.Time, p.Rate)
		for _, c := range p.Cues {
			text += "/" + impl.CueText(c)
		}
		playerTexts.checkReadBack(t, codedShow(p, impl.OK).player, text)
	}
}

func TestP18PlayerTextRefuses(t *testing.T) { playerTexts.checkNoTexts(t, invalidPlayers()) }

func TestP18ReadPlayerRefuses(t *testing.T) {
	texts := []string{
		// Other words.
		"halt 0 1000", "Play 0 1000", "PLAY 0 1000", "plays 0 1000", "pla 0 1000", "paus 0 1000", "pauses 0 1000", "stop 0 1000", "playing 0 1000", "true 0 1000", "1 0 1000", "0 1000", " 0 1000", "play\x00 0 1000",
		// Missing or further blanks, slashes and words.
		"play", "pause", "play ", "play 0", "play 0 ", "pause 0", "play 1000", "play  0 1000", "play 0  1000", " play 0 1000", "play 0 1000 ", "play0 1000", "play 01000", "play 0 1000 0", "play 0 1000 play", "play play 0 1000", "play 0 0 1000", "play\t0 1000", "play 0\t1000", "play 0 1000\n", "play\u00a00 1000", "play,0,1000", "play 0,1000", "play/0/1000", "play 0/1000", "play/0 1000", "play/", "/play 0 1000", "/",
		"play 0 1000/", "play 0 1000//", "play 0 1000 /", "play 0 1000/ ", "play 0 1000/a 0 sun stop/", "play 0 1000//a 0 sun stop", "/play 0 1000/a 0 sun stop", "play 0 1000/a 0 sun stop//b 0 sun stop", "play 0 1000/a 0 sun stop /b 0 sun stop", "play 0 1000/a 0 sun stop/ b 0 sun stop", "play 0 1000 /a 0 sun stop", "play 0 1000/ a 0 sun stop", "play 0 1000/a 0 sun stop ", "play 0 1000 a 0 sun stop", "play 0 1000a 0 sun stop", "play 0 1000/a 0 sun stop b 0 sun stop", "play 0 1000\na 0 sun stop", "play 0 1000/a 0 sun stop\n", "play 0 1000/a 0 sun stop\nb 0 sun stop", "play 0 1000;a 0 sun stop", "play 0 1000\\a 0 sun stop", "a 0 sun stop", "a 0 sun stop/play 0 1000", "play 0 1000/play 0 1000",
		// Numbers beyond their ranges.
		"play -1 1000", "play 1 1000", "pause 1 1000", "play 7200000 1000", "play 0 99", "play 0 4001", "pause 0 99", "pause 0 4001", "play 0 0", "play 0 -1000", "play 6 1000/a 5 sun stop", "play -1 1000/a 5 sun stop", "play 1501 1000" + fewShow, "pause 1501 1000" + fewShow, "play 8 1000" + sameShow, "play 7200001 1000/a 7200000 sun stop", "play 0 4001" + fewShow, "play 0 99" + fewShow,
		// Cues that are no cues, are not in order, or are too many.
		"play 0 1000/a", "play 0 1000/a 5 sun", "play 0 1000/a 5 sun set", "play 0 1000/a 5 sun set 1001", "play 0 1000/a 5 sun set 5 5", "play 0 1000/a 7200001 sun stop", "play 0 1000/a -1 sun stop", "play 0 1000/A 5 sun stop", "play 0 1000/a 5 Sun stop", "play 0 1000/a 5 sun fade 5 0", "play 0 1000/a 5 sun hold", "play 0 1000/a  5 sun stop", "play 0 1000/a 05 sun stop", "play 0 1000/a 0 sun stop/b", "play 0 1000/b/a 0 sun stop",
		"play 0 1000/a 5 sun stop/a 5 sun stop", "play 0 1000/a 5 sun stop/a 6 sun stop", "play 0 1000/b 5 sun stop/a 5 sun stop", "play 0 1000/a 6 sun stop/b 5 sun stop", "pause 0 1000/a 0 sun stop/c 5 sun stop/b 5 sun stop", "play 0 1000" + tooManyCues(33), "pause 0 1000" + tooManyCues(100),
		"play 0 1000" + strings.Repeat("/", 10000), "play 0 1000" + strings.Repeat("/a 0 sun stop", 5000), "play 0 1" + strings.Repeat("0", 10000), "play" + strings.Repeat(" 1000", 10000), strings.Repeat("play 0 1000/", 5000),
	}
	for _, number := range append(noNumbers(), "+0", "+1", "-5", "05", "5.0", "\u0665", "18446744073709551616", "18446744073709552616", "4294968296") {
		texts = append(texts, "play "+number+" 1000", "play "+number+" 1000"+fewShow, "pause 0 "+number, "play 0 "+number+fewShow, "play 0 1000/a "+number+" sun stop")
	}
	playerTexts.checkNotRead(t, append(texts, edgeTexts()...))
}

// tooManyCues returns a number of cues, one every thousandth, in the words of playerOf.
func tooManyCues(count int) string {
	text := ""
	for _, c := range evenCues(count) {
		text += "/" + impl.CueText(c)
	}
	return text
}

func TestP18ReadPlayerRefusesChangedBytes(t *testing.T) {
	for _, text := range []string{"play 0 1000", "pause 12 3456/a 5 sun set 67/b 12 y stop", "play 7 100" + sameShow} {
		playerTexts.checkChanged(t, text)
	}
}
