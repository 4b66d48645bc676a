package tests

import (
	"fmt"
	"math/rand"
	"slices"
	"strconv"
	"strings"
	"testing"

	"loop.example/g00955/impl"
)

// lineOf returns the line with a word for its kind, a Name and a Value, each of which may be missing; it need not be valid.
func lineOf(text string) impl.Line {
	words := strings.Fields(text)
	x := impl.Line{Kind: int64(slices.Index([]string{"none", "label", "wait", "fire", "jump", "end"}, words[0]))}
	for _, word := range words[1:] {
		if n, err := strconv.ParseInt(word, 10, 64); err == nil {
			x.Value = n
		} else {
			x.Name = word
		}
	}
	return x
}

// scriptOf returns the lines of a text, with semicolons between them; it need not be a script.
func scriptOf(text string) []impl.Line {
	list := []impl.Line{}
	for _, x := range strings.Split(text, ";") {
		if strings.TrimSpace(x) != "" {
			list = append(list, lineOf(x))
		}
	}
	return list
}

// repeatedly returns a text a number of times, with semicolons between them.
func repeatedly(text string, count int) string { return strings.Repeat(text+"; ", count) }

// fires returns a script that fires as many events, at the time 0.
func fires(count int) string {
	if count <= 1 {
		return repeatedly("fire a", count)
	}
	return fmt.Sprintf("label again; fire a; jump again %d; ", count-1)
}

func fewLines() []impl.Line { return scriptOf("label top; fire a; wait 100; jump top 1") }

// loops is a script in which a jump is met again after its counter became 0.
func loops() []impl.Line {
	return scriptOf("label out; label in; fire a; jump in 1; fire b; jump out 1; end; fire c")
}

// longScripts need many steps: the first one exactly MaxBudget, the next ones 1 more and 1 less, and the others far more.
func longScripts() [][]impl.Line {
	// The inner loop takes 200 steps, and the outer one 99 times 202.
	loop := "label a; label b; jump b 99; jump a 98; "
	return [][]impl.Line{
		scriptOf(loop + "label c; end"), scriptOf(loop + "label c; label d; end"), scriptOf(loop + "end"),
		scriptOf("label a; label b; jump b 100; jump a 100"), scriptOf("label a; label b; label c; label d; jump d 100; jump c 100; jump b 100; jump a 100"),
		scriptOf("label a; label b; fire x; jump b 100; jump a 100"), scriptOf("label a; label b; wait 2000; jump b 100; jump a 100"),
	}
}

// validScripts have none to MaxLines lines of all kinds, and run without an error within MaxBudget unless they are long.
func validScripts() [][]impl.Line {
	lists := [][]impl.Line{nil, {}, fewLines(), loops()}
	for _, text := range []string{
		"label a", "wait 1", "wait 7200000", "fire a", "end", "label a; jump a 1", "label a; jump a 100", "jump a 1; label a", "jump a 100; label a", "label abcdefghij; fire abcdefghij; jump abcdefghij 7; fire z9",
		"end; end", "end; wait 7200000; wait 7200000", "label a; label b; label c", "jump a 1; jump a 1; jump b 2; label b; label a", "fire label; label fire; jump fire 1; fire end; fire wait; label jump", "fire c; fire a; fire b; fire a; fire c", "wait 3600000; fire a; wait 3600000; fire b",
		"label a; wait 5; fire x; jump a 1; end; " + repeatedly("fire z", 35), repeatedly("wait 180000", 40), repeatedly("end", 40), repeatedly("fire a", 40), repeatedly("fire a; wait 1", 20),
	} {
		lists = append(lists, scriptOf(text))
	}
	return append(append(lists, longScripts()...), randomScripts(160, 30)...)
}

// randomScript returns a script of a number of lines, many of which jump.
func randomScript(random *rand.Rand, count int) []impl.Line {
	list, labels := []impl.Line{}, []string{}
	for i := range count {
		name := numberedName(random.Intn(8))
		switch kind := random.Intn(20); {
		case kind < 5:
			labels = append(labels, numberedName(i))
			list = append(list, impl.Line{Kind: impl.ScLabel, Name: numberedName(i)})
		case kind < 8:
			list = append(list, impl.Line{Kind: impl.ScWait, Value: []int64{1, 1 + random.Int63n(100), 1 + random.Int63n(3000000)}[random.Intn(3)]})
		case kind < 13:
			list = append(list, impl.Line{Kind: impl.ScFire, Name: name})
		case kind < 19:
			list = append(list, impl.Line{Kind: impl.ScJump, Value: []int64{1, 2, 1 + random.Int63n(4), 1 + random.Int63n(100)}[random.Intn(4)]})
		default:
			list = append(list, impl.Line{Kind: impl.ScEnd})
		}
	}
	for i, x := range list {
		if x.Kind == impl.ScJump && len(labels) > 0 {
			list[i].Name = labels[random.Intn(len(labels))]
		} else if x.Kind == impl.ScJump {
			list[i] = impl.Line{Kind: impl.ScFire, Name: "alone"}
		}
	}
	return list
}

func randomScripts(seed int64, count int) [][]impl.Line {
	random, lists := rand.New(rand.NewSource(seed)), [][]impl.Line{}
	for range count {
		lists = append(lists, randomScript(random, random.Intn(41)))
	}
	return lists
}

// invalidLines have a Kind, a Name or a Value that no line of a script has; a label "top" may be beside them.
func invalidLines() []impl.Line {
	list := []impl.Line{{}, {Name: "top"}, {Value: 1}}
	for _, kind := range []int64{0, 6, -1, -2, 7, 256, 257, 1<<32 + 1, minInt, maxInt} {
		list = append(list, impl.Line{Kind: kind}, impl.Line{Kind: kind, Name: "a"}, impl.Line{Kind: kind, Value: 1}, impl.Line{Kind: kind, Name: "top", Value: 1})
	}
	for _, name := range invalidNames() {
		list = append(list, impl.Line{Kind: impl.ScLabel, Name: name}, impl.Line{Kind: impl.ScFire, Name: name}, impl.Line{Kind: impl.ScJump, Name: name, Value: 1})
		if name != "" {
			list = append(list, impl.Line{Kind: impl.ScWait, Name: name, Value: 1}, impl.Line{Kind: impl.ScEnd, Name: name})
		}
	}
	for _, name := range []string{"a", "top", "abcdefghij"} {
		list = append(list, impl.Line{Kind: impl.ScWait, Name: name, Value: 1}, impl.Line{Kind: impl.ScEnd, Name: name})
	}
	for _, n := range []int64{1, -1, 100, 7200000, 1 << 32, minInt, maxInt} {
		list = append(list, impl.Line{Kind: impl.ScLabel, Name: "a", Value: n}, impl.Line{Kind: impl.ScFire, Name: "a", Value: n}, impl.Line{Kind: impl.ScEnd, Value: n})
	}
	for _, n := range []int64{0, -1, 7200001, -7200000, 1 << 32, 1<<32 + 1, minInt, minInt + 1, maxInt - 1, maxInt} {
		list = append(list, impl.Line{Kind: impl.ScWait, Value: n})
	}
	for _, n := range []int64{0, -1, 101, -100, 1000, 7200000, 1 << 32, 1<<32 + 1, minInt, minInt + 1, maxInt - 1, maxInt} {
		list = append(list, impl.Line{Kind: impl.ScJump, Name: "top", Value: n})
	}
	return list
}

// invalidScripts have too many lines, one that is not valid, a label twice, or a jump without a label.
func invalidScripts() [][]impl.Line {
	lists := [][]impl.Line{
		scriptOf(repeatedly("end", 41)), scriptOf(repeatedly("fire a", 41)), scriptOf(repeatedly("end", 100)), make([]impl.Line, 40), make([]impl.Line, 1000),
		// Labels with the same Name.
		scriptOf("label a; label a"), scriptOf("label a; fire b; label a"), scriptOf("label a; label b; label a; jump a 1"), scriptOf("label a; jump a 1; label a"), scriptOf("label a; end; label b; label b"), scriptOf(repeatedly("label a", 40)),
		// Jumps without a label.
		scriptOf("jump a 1"), scriptOf("fire a; jump a 1"), scriptOf("label b; jump a 1"), scriptOf("label a; jump b 1; jump a 1"), scriptOf("label a; jump aa 1"), scriptOf("label aa; jump a 1"), scriptOf("label a; end; jump b 1"), scriptOf("label a; jump a 1; jump b 1"),
	}
	for _, x := range invalidLines() {
		lists = append(lists, []impl.Line{x}, append(scriptOf("label top"), x), append([]impl.Line{x}, scriptOf("label top; end")...), slices.Concat(scriptOf("label top; "+repeatedly("end", 38)), []impl.Line{x}))
	}
	return lists
}

// firstLines shows the beginning of a script.
func firstLines(list []impl.Line) string {
	return fmt.Sprintf("%d lines from %q on", len(list), fmt.Sprint(list[:min(len(list), 8)]))
}

// runCalls are those of all functions that run a script.
func runCalls(list []impl.Line, budget int64) []horizonCall {
	arguments := fmt.Sprintf("(%s, %d)", firstLines(list), budget)
	return []horizonCall{
		{"RunScript" + arguments, codedMany(impl.RunScript(list, budget))}, {"ScriptTime" + arguments, coded(impl.ScriptTime(list, budget))}, {"StepsOf" + arguments, coded(impl.StepsOf(list, budget))},
		{"UnreachedLines" + arguments, codedMany(impl.UnreachedLines(list, budget))}, {"FlatScript" + arguments, codedMany(impl.FlatScript(list, budget))},
	}
}

// lineCalls are those of the functions that look at the lines of a script only, and return a code.
func lineCalls(list []impl.Line, name string) []horizonCall {
	arguments := fmt.Sprintf("(%s)", firstLines(list))
	return []horizonCall{
		{"LabelAt" + arguments, coded(impl.LabelAt(list, name))}, {"UnusedLabels" + arguments, codedMany(impl.UnusedLabels(list))}, {"CuesOfScript" + arguments, codedMany(impl.CuesOfScript(list))},
	}
}

// Promise 1, for the functions of chapter 15.

func TestP1ScriptsReturnEqualResults(t *testing.T) {
	lists, budgets := append(validScripts(), invalidScripts()...), append(edgeNumbers(), 5, 8, 100, 20000, 20001)
	for i, list := range lists {
		other := lists[(7*i+1)%len(lists)]
		for k := range 8 {
			budget := budgets[(5*i+11*k)%len(budgets)]
			checkRepeats(t, fmt.Sprintf("functions of %s and the budget %d", firstLines(list), budget), func() []any {
				results := resultsOf(append(runCalls(list, budget), lineCalls(list, numberedName(k))...)...)
				return append(results, impl.ValidScript(list), impl.SameScript(list, other), impl.ScriptText(list))
			})
		}
	}
	for _, s := range edgeTexts() {
		for _, text := range []string{s, s + "\n", "label " + s + "\n", "wait " + s + "\n", s + " a\n", "label a\njump a " + s + "\n"} {
			checkRepeats(t, fmt.Sprintf("functions of the text %.60q", text), func() []any {
				list, ok := impl.ReadScript(text)
				return append(resultsOf(append(runCalls(list, 100), lineCalls(fewLines(), text)...)...), list, ok, impl.ScriptText([]impl.Line{{Kind: impl.ScFire, Name: text}}))
			})
		}
	}
}

// TestP1ScriptsTakeNumbersAtTheEnds calls all functions with pairs of numbers at the ends of int64 and of the ranges.
func TestP1ScriptsTakeNumbersAtTheEnds(t *testing.T) {
	numbers := append(edgeNumbers(), noShowTimes()...)
	for _, n := range append(numbers, 4, 5, 6, 100, 101, 7200000) {
		for _, o := range numbers {
			for _, list := range [][]impl.Line{{{Kind: n, Value: o}}, {{Kind: n, Name: "a", Value: o}}, {{Kind: impl.ScLabel, Name: "a"}, {Kind: impl.ScJump, Name: "a", Value: n}, {Kind: impl.ScWait, Value: o}}} {
				for _, c := range append(runCalls(list, o), runCalls(list, n)...) {
					if made, isMade := c.result.(codedList[impl.Line]); isMade && (made.code != impl.OK && made.list != nil || !impl.ValidScript(made.list)) {
						t.Errorf("%s: %v", c.call, made)
					}
				}
				lineCalls(list, "a")
				impl.ScriptText(list)
				impl.SameScript(list, fewLines())
			}
		}
	}
}

func TestP1ScriptsKeepTheirArguments(t *testing.T) {
	rest := scriptOf(repeatedly("fire over; wait 77", 30))
	lists := append(validScripts(), invalidScripts()...)
	for i, list := range lists {
		other := lists[(i+1)%len(lists)]
		checkListKept(t, "functions of "+firstLines(list), list, rest, func(l []impl.Line) {
			checkListKept(t, "SameScript with "+firstLines(other), other, rest, func(o []impl.Line) { impl.SameScript(l, o) })
			impl.ValidScript(l)
			impl.ScriptText(l)
			lineCalls(l, "a")
			for _, budget := range []int64{0, 1, 7, 8, 100, 20000} {
				runCalls(l, budget)
			}
		})
	}
}

func TestP1ScriptListsHaveMemoryOfTheirOwn(t *testing.T) {
	for _, list := range validScripts() {
		whole := slices.Concat(list, scriptOf(repeatedly("fire over; wait 77", 30)))
		l, before := whole[:len(list)], slices.Clone(whole)
		kept := func() bool { return slices.Equal(whole, before) }
		checkNewList(t, "UnusedLabels", "over", func() []string {
			names, code := impl.UnusedLabels(l)
			return withoutCode(t, names, code)
		}, kept)
		checkNewList(t, "CuesOfScript", "over", func() []string {
			names, code := impl.CuesOfScript(l)
			return withoutCode(t, names, code)
		}, kept)
		if _, code := impl.RunScript(l, 20000); code != impl.OK {
			continue
		}
		checkNewList(t, "RunScript", impl.Event{Time: 77, Cue: "over"}, func() []impl.Event {
			events, code := impl.RunScript(l, 20000)
			return withoutCode(t, events, code)
		}, kept)
		checkNewNumbers(t, "UnreachedLines", func() []int64 {
			indices, code := impl.UnreachedLines(l, 20000)
			return withoutCode(t, indices, code)
		}, kept)
		if _, code := impl.FlatScript(l, 20000); code == impl.OK {
			checkMadeOf(t, "FlatScript", impl.Line{Kind: 7, Name: "over"}, [][]impl.Line{list}, func(lists [][]impl.Line) []impl.Line {
				flat, code := impl.FlatScript(lists[0], 20000)
				return withoutCode(t, flat, code)
			})
		}
		text := impl.ScriptText(l)
		checkNewList(t, "ReadScript", impl.Line{Kind: 7, Name: "over"}, func() []impl.Line {
			read, _ := impl.ReadScript(text)
			return read
		}, kept)
	}
}

// Promise 16: scripts.

func TestP16ScriptConstants(t *testing.T) {
	constants := []int64{impl.ScLabel, impl.ScWait, impl.ScFire, impl.ScJump, impl.ScEnd, impl.MaxLines, impl.MaxTimes, impl.MaxEvents}
	checkResult(t, "constants", constants, []int64{1, 2, 3, 4, 5, 40, 100, 64})
}

func TestP16ValidScript(t *testing.T) {
	for _, list := range validScripts() {
		checkResult(t, fmt.Sprintf("ValidScript(%v)", list), impl.ValidScript(list), true)
	}
	for _, list := range invalidScripts() {
		checkResult(t, fmt.Sprintf("ValidScript(%.200q)", fmt.Sprint(list)), impl.ValidScript(list), false)
	}
	for count := range 50 {
		for _, text := range []string{"end", "fire a", "wait 7200000"} {
			checkResult(t, fmt.Sprintf("ValidScript of %d times %q", count, text), impl.ValidScript(scriptOf(repeatedly(text, count))), count <= 40)
		}
		labels := []impl.Line{}
		for i := range count {
			labels = append(labels, impl.Line{Kind: impl.ScLabel, Name: numberedName(i)})
		}
		checkResult(t, fmt.Sprintf("ValidScript of %d labels", count), impl.ValidScript(labels), count <= 40)
	}
	for _, n := range append(edgeNumbers(), 4, 99, 100, 101, 7199999, 7200000, 7200001) {
		checkResult(t, fmt.Sprintf("ValidScript that waits %d", n), impl.ValidScript([]impl.Line{{Kind: impl.ScWait, Value: n}}), n >= 1 && n <= 7200000)
		jump := impl.Line{Kind: impl.ScJump, Name: "a", Value: n}
		for _, list := range [][]impl.Line{{lineOf("label a"), jump}, {jump, lineOf("label a")}, {jump, lineOf("end"), lineOf("label a"), jump}} {
			checkResult(t, fmt.Sprintf("ValidScript(%v)", list), impl.ValidScript(list), n >= 1 && n <= 100)
		}
	}
}

// otherLines are lines that differ from x in one field each.
func otherLines(x impl.Line) []impl.Line {
	return []impl.Line{{Kind: x.Kind + 1, Name: x.Name, Value: x.Value}, {Kind: x.Kind, Name: x.Name + "x", Value: x.Value}, {Kind: x.Kind, Name: x.Name, Value: x.Value + 1}}
}

func TestP16SameScript(t *testing.T) {
	lists := slices.Concat(validScripts(), invalidScripts(), [][]impl.Line{invalidLines()})
	sameForm[impl.Line]{"SameScript", impl.SameScript, otherLines}.checkLists(t, lists)
}

func TestP16InvalidScriptsAreRefusedFirst(t *testing.T) {
	for _, list := range invalidScripts() {
		for _, name := range []string{"a", "top", "missing", ""} {
			checkRefused(t, lineCalls(list, name), impl.ErrInvalid)
		}
		for _, budget := range append(noBudgets(), 1, 100, 20000) {
			checkRefused(t, runCalls(list, budget), impl.ErrInvalid)
		}
	}
}

func TestP16NoBudgetsAreRefused(t *testing.T) {
	// They come ahead of all errors to which a script leads.
	lists := append(validScripts(), scriptOf("wait 7200000; wait 1"), scriptOf(fires(65)))
	for _, list := range lists {
		for _, budget := range append(noBudgets(), 20002, 40000, -20001, minInt+1, maxInt-1) {
			checkRefused(t, runCalls(list, budget), impl.ErrRange)
		}
	}
}

func TestP16Labels(t *testing.T) {
	cases := []struct{ list, labels, unused string }{
		{"", "", ""}, {"end", "", ""}, {"fire a; wait 5; fire b", "", ""}, {"label a", "a 0", "a"}, {"label a; jump a 1", "a 0", ""}, {"jump a 1; label a", "a 1", ""}, {"jump a 1; jump a 2; fire a; label a; jump a 3", "a 3", ""},
		{"label c; label a; label b", "c 0 a 1 b 2", "c a b"}, {"label c; label a; label b; jump a 1", "c 0 a 1 b 2", "c b"}, {"label c; label a; label b; jump c 1; jump c 1", "c 0 a 1 b 2", "a b"}, {"jump b 1; fire c; label c; end; label a; label b; jump b 100", "c 2 a 4 b 5", "c a"}, {"label z; end; label y; fire y; jump z 1; label x; jump x 1", "z 0 y 2 x 5", "y"},
		{"label a; label aa; label b0; label b; jump aa 1; jump b 1", "a 0 aa 1 b0 2 b 3", "a b0"}, {repeatedly("end", 39) + "label a", "a 39", "a"}, {"label b; fire a; end; fire b", "b 0", "b"},
	}
	for _, c := range cases {
		list := scriptOf(c.list)
		words := strings.Fields(c.labels)
		for i := 0; i < len(words); i += 2 {
			at, _ := strconv.ParseInt(words[i+1], 10, 64)
			checkResult(t, fmt.Sprintf("LabelAt(%v, %q)", list, words[i]), coded(impl.LabelAt(list, words[i])), coded(at, impl.OK))
		}
		for _, name := range append(invalidNames(), "missing", "bb", "c0") {
			checkResult(t, fmt.Sprintf("LabelAt(%v, %q)", list, name), coded(impl.LabelAt(list, name)), coded(0, impl.ErrNotFound))
		}
		checkResult(t, fmt.Sprintf("UnusedLabels(%v)", list), codedMany(impl.UnusedLabels(list)), codedMany(strings.Fields(c.unused), impl.OK))
	}
	// The names of cues are no labels.
	checkResult(t, "LabelAt of a cue", coded(impl.LabelAt(scriptOf("fire a; label b"), "a")), coded(0, impl.ErrNotFound))
}

func TestP16LabelsEverywhere(t *testing.T) {
	for _, list := range append(validScripts(), randomScripts(161, 200)...) {
		unused, shown := []string{}, fmt.Sprint(list)
		for i, x := range list {
			if x.Kind != impl.ScLabel {
				continue
			}
			checkResult(t, fmt.Sprintf("LabelAt(%s, %q)", shown, x.Name), coded(impl.LabelAt(list, x.Name)), coded(int64(i), impl.OK))
			if !slices.ContainsFunc(list, func(y impl.Line) bool { return y.Kind == impl.ScJump && y.Name == x.Name }) {
				unused = append(unused, x.Name)
			}
		}
		checkResult(t, fmt.Sprintf("UnusedLabels(%s)", shown), codedMany(impl.UnusedLabels(list)), codedMany(unused, impl.OK))
	}
}

func TestP16CuesOfScript(t *testing.T) {
	cases := []struct{ list, want string }{
		{"", ""}, {"end", ""}, {"label a; jump a 1", ""}, {"fire a", "a"}, {"fire a; fire a; fire a", "a"}, {"fire c; fire a; fire b; fire a; fire c", "a b c"}, {"fire b; wait 5; fire a; end; fire c", "a b c"}, {"label x; fire z; jump x 3; fire y", "y z"}, {"fire a9; fire a10; fire aa; fire a", "a a10 a9 aa"}, {repeatedly("fire b; fire a", 20), "a b"}, {"end; fire a", "a"},
	}
	for _, c := range cases {
		checkResult(t, fmt.Sprintf("CuesOfScript(%s)", c.list), codedMany(impl.CuesOfScript(scriptOf(c.list))), codedMany(strings.Fields(c.want), impl.OK))
	}
	for _, list := range append(validScripts(), randomScripts(162, 100)...) {
		cues := []string{}
		for _, x := range list {
			if x.Kind == impl.ScFire && !slices.Contains(cues, x.Name) {
				cues = append(cues, x.Name)
			}
		}
		slices.Sort(cues)
		checkResult(t, fmt.Sprintf("CuesOfScript(%v)", list), codedMany(impl.CuesOfScript(list)), codedMany(cues, impl.OK))
	}
}

// Promise 16: running.

// ranScript is what a script has done, or the code of the error to which it leads; its flat script may lead to another one.
type ranScript struct {
	events      []impl.Event
	time, steps int64
	unreached   []int64
	code        int64
}

// plainRun follows the text of the document.
func plainRun(list []impl.Line, budget int64) ranScript {
	ran, counters, unreached := ranScript{}, map[int]int64{}, allIndices(len(list))
	for at := 0; at < len(list); {
		if ran.steps+1 > budget {
			return ranScript{code: impl.ErrFull}
		}
		ran.steps++
		unreached[at] = -1
		x, next := list[at], at+1
		switch x.Kind {
		case impl.ScWait:
			ran.time += x.Value
			if ran.time > 7200000 {
				return ranScript{code: impl.ErrState}
			}
		case impl.ScFire:
			ran.events = append(ran.events, impl.Event{Time: ran.time, Cue: x.Name})
			if len(ran.events) > 64 {
				return ranScript{code: impl.ErrFull}
			}
		case impl.ScJump:
			if counters[at] < x.Value {
				counters[at]++
				next = slices.Index(list, impl.Line{Kind: impl.ScLabel, Name: x.Name})
			} else {
				counters[at] = 0
			}
		case impl.ScEnd:
			next = len(list)
		}
		at = next
	}
	ran.unreached = slices.DeleteFunc(unreached, func(at int64) bool { return at < 0 })
	return ran
}

// plainFlat follows the text of the document.
func plainFlat(ran ranScript) codedList[impl.Line] {
	flat, before := []impl.Line{}, int64(0)
	for _, event := range ran.events {
		if event.Time-before > 0 {
			flat = append(flat, impl.Line{Kind: impl.ScWait, Value: event.Time - before})
		}
		flat, before = append(flat, impl.Line{Kind: impl.ScFire, Name: event.Cue}), event.Time
	}
	if ran.time-before > 0 {
		flat = append(flat, impl.Line{Kind: impl.ScWait, Value: ran.time - before})
	}
	if ran.code != impl.OK || len(flat) > 40 {
		return codedMany[impl.Line](nil, max(ran.code, impl.ErrFull))
	}
	return codedMany(flat, impl.OK)
}

// checkRan checks all functions that run a script.
func checkRan(t *testing.T, list []impl.Line, budget int64, want ranScript) {
	t.Helper()
	results := []any{codedMany(want.events, want.code), coded(want.time, want.code), coded(want.steps, want.code), codedMany(want.unreached, want.code), plainFlat(want)}
	for i, c := range runCalls(list, budget) {
		checkResult(t, c.call, c.result, results[i])
	}
}

// eventsOf returns the events with texts such as "100 a".
func eventsOf(text string) []impl.Event {
	events, words := []impl.Event{}, strings.Fields(text)
	for i := 0; i < len(words); i += 2 {
		time, _ := strconv.ParseInt(words[i], 10, 64)
		events = append(events, impl.Event{Time: time, Cue: words[i+1]})
	}
	return events
}

func TestP16RunScriptCases(t *testing.T) {
	cases := []struct {
		list, events string
		time, steps  int64
		unreached    []int64
	}{
		{"", "", 0, 0, nil}, {"fire a", "0 a", 0, 1, nil}, {"wait 7200000", "", 7200000, 1, nil}, {"label a", "", 0, 1, nil}, {"end", "", 0, 1, nil},
		{"label top; fire a; wait 100; jump top 1", "0 a 100 a", 200, 8, nil}, {"fire b; wait 5; fire a; fire b; wait 7; wait 8; fire c; wait 9", "0 b 5 a 5 b 20 c", 29, 8, nil},
		// The end ahead of the last line, and lines behind it.
		{"end; fire a", "", 0, 1, []int64{1}}, {"wait 5; end; wait 6; fire a", "", 5, 2, []int64{2, 3}}, {"fire a; end; end; label b; jump b 3", "0 a", 0, 2, []int64{2, 3, 4}}, {"fire a; jump over 1; end; label over; fire b; wait 7; end; fire c", "0 a 0 b", 7, 6, []int64{2, 7}}, {"label a; fire x; jump b 1; jump a 5; label b; end", "0 x", 0, 5, []int64{3}},
		// Jumps forwards: the line that they pass over is reached when the counter has its Value.
		{"jump on 1; fire a; label on; fire b", "0 b", 0, 3, []int64{1}}, {"jump z 2; label z", "", 0, 2, nil}, {"jump z 2; wait 7200000; wait 7200000; label z", "", 0, 2, []int64{1, 2}}, {"label top; jump on 1; fire a; label on; fire b; wait 10; jump top 2", "0 b 10 a 10 b 20 b", 30, 19, nil}, {"label top; jump on 2; fire a; label on; wait 10; jump top 3", "20 a", 40, 21, nil}, {"label top; jump on 2; fire a; label on; wait 10; jump top 1", "", 20, 10, []int64{2}},
		// Jumps that are met again after their counters became 0.
		{"label out; label in; fire a; jump in 1; fire b; jump out 1; end; fire c", "0 a 0 a 0 b 0 a 0 a 0 b", 0, 19, []int64{7}}, {"label out; label in; wait 1; jump in 2; fire b; jump out 2", "3 b 6 b 9 b", 9, 36, nil}, {"label a; fire x; jump a 1; jump a 1", "0 x 0 x 0 x 0 x", 0, 14, nil}, {"label a; label b; label c; wait 1; jump c 1; jump b 1; jump a 1", "", 8, 36, nil}, {"label a; wait 1; jump a 1; jump a 2; fire x", "6 x", 6, 22, nil},
		// Labels that are their own jumps' targets.
		{"label a; jump a 1", "", 0, 4, nil}, {"label a; jump a 3", "", 0, 8, nil}, {"fire x; label a; jump a 100; fire y", "0 x 0 y", 0, 204, nil}, {"wait 3; label a; jump a 1; label b; jump b 2; fire c", "3 c", 3, 12, nil},
		{"label a; end; jump a 1", "", 0, 2, []int64{2}}, {"jump a 1; end; label b; fire y; jump c 1; label a; fire x; jump b 1; label c; wait 4", "0 x 0 y", 4, 9, []int64{1}},
		{"label a; wait 72000; jump a 99", "", 7200000, 300, nil}, {repeatedly("wait 180000", 40), "", 7200000, 40, nil}, {"wait 7200000; fire a; fire b", "7200000 a 7200000 b", 7200000, 3, nil}, {fires(64), strings.Repeat("0 a ", 64), 0, 192, nil}, {repeatedly("fire a", 40), strings.Repeat("0 a ", 40), 0, 40, nil},
	}
	for _, c := range cases {
		list, want := scriptOf(c.list), ranScript{eventsOf(c.events), c.time, c.steps, c.unreached, impl.OK}
		for _, budget := range []int64{max(c.steps, 1), c.steps + 1, 10000, 20000} {
			checkRan(t, list, budget, want)
		}
		for _, budget := range []int64{1, c.steps / 2, c.steps - 1} {
			if budget >= 1 && budget < c.steps {
				checkRan(t, list, budget, ranScript{code: impl.ErrFull})
			}
		}
	}
}

func TestP16ErrorsOfRunning(t *testing.T) {
	late := "wait 7200000; wait 1"
	cases := []struct {
		list         string
		budget, code int64
	}{
		// The time, at its last step and at others: the budget comes first at the same step.
		{late, 2, impl.ErrState}, {late, 1, impl.ErrFull}, {late, 20000, impl.ErrState}, {"wait 1; wait 7200000", 2, impl.ErrState}, {"wait 3600000; wait 3600001", 2, impl.ErrState}, {"label a; wait 72000; jump a 100", 20000, impl.ErrState}, {"label a; wait 72000; jump a 100", 302, impl.ErrState}, {"label a; wait 72000; jump a 100", 301, impl.ErrFull}, {"label a; wait 72001; jump a 99", 300, impl.ErrState}, {"label a; wait 7200000; jump a 1", 5, impl.ErrState}, {"label a; wait 7200000; jump a 1", 4, impl.ErrFull}, {repeatedly("wait 180001", 40), 40, impl.ErrState}, {repeatedly("wait 180001", 40), 39, impl.ErrFull}, {"wait 7200000; " + late, 3, impl.ErrState},
		// The events.
		{fires(65), 20000, impl.ErrFull}, {fires(65), 194, impl.ErrFull}, {fires(65), 193, impl.ErrFull}, {fires(101), 20000, impl.ErrFull}, {"wait 5; " + fires(64) + "fire b", 20000, impl.ErrFull}, {"fire b; wait 5; " + fires(64), 20000, impl.ErrFull}, {"label a; label b; fire x; jump b 12; jump a 4", 20000, impl.ErrFull},
		// The first of several errors.
		{fires(65) + late, 20000, impl.ErrFull}, {fires(64) + late + "; fire b", 20000, impl.ErrState}, {late + "; " + fires(65), 20000, impl.ErrState}, {fires(64) + late + "; fire b", 194, impl.ErrState}, {fires(64) + late + "; fire b", 193, impl.ErrFull}, {"fire a; " + fires(64) + late, 194, impl.ErrFull}, {"label z; " + late + "; jump z 1", 3, impl.ErrState},
		{"fire a; wait 1; fire b", 2, impl.ErrFull}, {"fire a; end; fire b", 1, impl.ErrFull}, {"jump a 1; label a", 1, impl.ErrFull}, {"label a; jump a 1", 3, impl.ErrFull},
		// Errors that a script does not get to.
		{"end; " + late, 1, impl.OK}, {"jump z 1; " + late + "; label z", 2, impl.OK}, {"label a; end; " + fires(65), 2, impl.OK}, {fires(64) + "end; fire b", 193, impl.OK}, {"wait 7200000; end; wait 1", 2, impl.OK}, {"fire a", 1, impl.OK},
	}
	for _, c := range cases {
		list := scriptOf(c.list)
		for _, call := range runCalls(list, c.budget)[:4] {
			if c.code != impl.OK {
				checkRefused(t, []horizonCall{call}, c.code)
			}
		}
		_, code := impl.RunScript(list, c.budget)
		checkResult(t, fmt.Sprintf("RunScript(%s, %d)", c.list, c.budget), code, c.code)
		checkRan(t, list, c.budget, plainRun(list, c.budget))
	}
}

func TestP16GreatestBudgets(t *testing.T) {
	long := longScripts()
	for i, list := range long {
		steps, code := impl.StepsOf(list, 20000)
		switch i {
		case 0:
			checkResult(t, "StepsOf with all of MaxBudget", coded(steps, code), coded(20000, impl.OK))
			checkResult(t, "StepsOf with one less", coded(impl.StepsOf(list, 19999)), coded(0, impl.ErrFull))
		case 2:
			checkResult(t, "StepsOf with one less than MaxBudget", coded(steps, code), coded(19999, impl.OK))
		case 6:
			checkResult(t, "StepsOf of long waits", coded(steps, code), coded(0, impl.ErrState))
		default:
			checkResult(t, fmt.Sprintf("StepsOf(%v)", list), coded(steps, code), coded(0, impl.ErrFull))
		}
		for _, budget := range []int64{1, 2, 10000, 19998, 19999, 20000} {
			checkRan(t, list, budget, plainRun(list, budget))
		}
		checkRefused(t, runCalls(list, 20001), impl.ErrRange)
	}
}

func TestP16AScriptNeedsJustAsManyStepsAsAreCounted(t *testing.T) {
	random, ran := rand.New(rand.NewSource(163)), map[int64]int{}
	for _, list := range append(validScripts(), randomScripts(164, 1500)...) {
		want := plainRun(list, 20000)
		ran[want.code]++
		checkRan(t, list, 20000, want)
		for _, budget := range []int64{1, 1 + random.Int63n(20), 1 + random.Int63n(300), 1 + random.Int63n(20000)} {
			checkRan(t, list, budget, plainRun(list, budget))
		}
		if want.code != impl.OK {
			continue
		}
		checkRan(t, list, max(want.steps, 1), want)
		if want.steps > 1 {
			checkRan(t, list, want.steps-1, ranScript{code: impl.ErrFull})
		}
	}
	if ran[impl.OK] < 500 || ran[impl.ErrState] < 100 || ran[impl.ErrFull] < 100 {
		t.Errorf("the random scripts lead to the codes %v", ran)
	}
}

// Promise 16: flat scripts.

func TestP16FlatScriptCases(t *testing.T) {
	cases := []struct{ list, want string }{
		{"", ""}, {"label a", ""}, {"end", ""}, {"label a; jump a 5; end; fire b", ""}, {"fire a", "fire a"}, {"wait 5", "wait 5"}, {"wait 5; fire a", "wait 5; fire a"}, {"fire a; wait 5", "fire a; wait 5"}, {"end; fire a", ""},
		{"label top; fire a; wait 100; jump top 1", "fire a; wait 100; fire a; wait 100"}, {"label top; wait 100; fire a; jump top 1", "wait 100; fire a; wait 100; fire a"}, {"wait 5; label a; wait 6; fire b; jump a 1; end", "wait 11; fire b; wait 6; fire b"},
		// Several events at one time, and waits one behind the other.
		{"fire a; fire b; wait 5; wait 6; fire c; fire a", "fire a; fire b; wait 11; fire c; fire a"}, {"wait 1; wait 2; label a; wait 3; jump a 1; fire x; wait 4; label b; wait 5; jump b 1", "wait 9; fire x; wait 14"}, {"wait 5; fire c; fire b; fire c; end", "wait 5; fire c; fire b; fire c"}, {"wait 3600000; wait 3600000", "wait 7200000"}, {"wait 7200000; fire a", "wait 7200000; fire a"}, {"fire a; wait 3600000; fire b; wait 3600000", "fire a; wait 3600000; fire b; wait 3600000"},
		{"label out; label in; wait 2; fire a; jump in 1; wait 1; fire b; jump out 1", "wait 2; fire a; wait 2; fire a; wait 1; fire b; wait 2; fire a; wait 2; fire a; wait 1; fire b"},
		// Just MaxLines.
		{fires(40), repeatedly("fire a", 40)}, {fires(39) + "wait 7", repeatedly("fire a", 39) + "wait 7"}, {"wait 7; " + fires(39), "wait 7; " + repeatedly("fire a", 39)}, {"wait 7; " + fires(38) + "wait 1; label x; wait 1; jump x 7", "wait 7; " + repeatedly("fire a", 38) + "wait 9"}, {"label x; wait 3; fire b; jump x 19", repeatedly("wait 3; fire b", 20)}, {"label x; fire b; wait 3; jump x 19", repeatedly("fire b; wait 3", 20)}, {repeatedly("fire a; wait 1", 20), repeatedly("fire a; wait 1", 20)},
	}
	for _, c := range cases {
		list := scriptOf(c.list)
		checkResult(t, fmt.Sprintf("FlatScript(%s)", c.list), codedMany(impl.FlatScript(list, 1000)), codedMany(scriptOf(c.want), impl.OK))
	}
	for _, text := range []string{fires(41), fires(64), fires(40) + "wait 7", "wait 7; " + fires(40), "wait 7; " + fires(39) + "wait 7", "label x; wait 3; fire b; jump x 19; wait 1", "label x; wait 3; fire b; jump x 19; fire c", "label x; wait 3; fire b; jump x 20", "fire a; label x; wait 3; fire b; jump x 19", "label x; fire b; wait 3; jump x 19; fire b"} {
		list := scriptOf(text)
		checkResult(t, fmt.Sprintf("FlatScript(%s)", text), codedMany(impl.FlatScript(list, 1000)), codedMany[impl.Line](nil, impl.ErrFull))
		if _, code := impl.RunScript(list, 1000); code != impl.OK {
			t.Errorf("RunScript(%s): got the code %d", text, code)
		}
	}
}

func TestP16AFlatScriptFiresTheSameEvents(t *testing.T) {
	flats := 0
	for _, list := range append(validScripts(), randomScripts(165, 1500)...) {
		ran := plainRun(list, 20000)
		flat, code := impl.FlatScript(list, 20000)
		checkResult(t, fmt.Sprintf("FlatScript(%v)", list), codedMany(flat, code), plainFlat(ran))
		if code != impl.OK {
			continue
		}
		flats++
		checkResult(t, fmt.Sprintf("ValidScript(%v)", flat), impl.ValidScript(flat), true)
		// A flat script executes each of its lines once.
		checkRan(t, flat, max(int64(len(flat)), 1), ranScript{ran.events, ran.time, int64(len(flat)), nil, impl.OK})
		checkResult(t, fmt.Sprintf("FlatScript(%v)", flat), codedMany(impl.FlatScript(flat, 20000)), codedMany(flat, impl.OK))
	}
	if flats < 300 {
		t.Errorf("only %d scripts have flat ones", flats)
	}
}

// Promise 16: texts.

var scriptTexts = textForm[[]impl.Line]{"Script", impl.ScriptText, impl.ReadScript}

func TestP16ScriptIsReadBack(t *testing.T) {
	cases := []struct {
		list []impl.Line
		text string
	}{
		{[]impl.Line{}, ""}, {[]impl.Line{{Kind: impl.ScLabel, Name: "top"}}, "label top\n"}, {[]impl.Line{{Kind: impl.ScWait, Value: 1}}, "wait 1\n"}, {[]impl.Line{{Kind: impl.ScWait, Value: 7200000}}, "wait 7200000\n"}, {[]impl.Line{{Kind: impl.ScFire, Name: "abcdefghij"}}, "fire abcdefghij\n"}, {[]impl.Line{{Kind: impl.ScEnd}}, "end\n"},
		{[]impl.Line{{Kind: impl.ScJump, Name: "a", Value: 1}, {Kind: impl.ScLabel, Name: "a"}, {Kind: impl.ScJump, Name: "a", Value: 100}}, "jump a 1\nlabel a\njump a 100\n"}, {fewLines(), "label top\nfire a\nwait 100\njump top 1\n"}, {loops(), "label out\nlabel in\nfire a\njump in 1\nfire b\njump out 1\nend\nfire c\n"},
		// The names may be words of lines.
		{[]impl.Line{{Kind: impl.ScLabel, Name: "label"}, {Kind: impl.ScLabel, Name: "jump"}, {Kind: impl.ScJump, Name: "jump", Value: 7}, {Kind: impl.ScFire, Name: "wait"}, {Kind: impl.ScFire, Name: "end"}}, "label label\nlabel jump\njump jump 7\nfire wait\nfire end\n"},
		{scriptOf(repeatedly("end", 40)), strings.Repeat("end\n", 40)}, {scriptOf(repeatedly("wait 7200000", 40)), strings.Repeat("wait 7200000\n", 40)},
	}
	for _, c := range cases {
		scriptTexts.checkReadBack(t, c.list, c.text)
	}
	checkResult(t, "ScriptText of none", impl.ScriptText(nil), "")
	for _, list := range append(validScripts()[1:], randomScripts(166, 100)...) {
		text := ""
		for _, x := range list {
			text += []string{"", "label " + x.Name, fmt.Sprintf("wait %d", x.Value), "fire " + x.Name, fmt.Sprintf("jump %s %d", x.Name, x.Value), "end"}[x.Kind] + "\n"
		}
		scriptTexts.checkReadBack(t, list, text)
	}
}

func TestP16ScriptTextRefuses(t *testing.T) { scriptTexts.checkNoTexts(t, invalidScripts()) }

func TestP16ReadScriptRefuses(t *testing.T) {
	texts := []string{
		// A missing newline, empty lines, and other ends of lines.
		"end", "fire a", "label a\njump a 1", "end\nend", "\n", "\n\n", "end\n\n", "\nend\n", "end\n\nend\n", "end\r\n", "end\r", "end\n\r", "end\v", "end\f\n", "end\u2028", "end\u0085", "end;", "end\x00", "end\n\x00",
		// Missing or further blanks, and others.
		" end\n", "end \n", " \n", "  \n", "end\n \n", "end\n end\n", "label  a\n", "label a \n", " label a\n", "labela\n", "wait5\n", "wait  5\n", "wait 5 \n", " wait 5\n", "fire\ta\n", "fire\u00a0a\n", "fire\u2003a\n", "fire a\t\n", "\tfire a\n", "label a\njump a  1\n", "label a\njump  a 1\n", "label a\njump a1\n", "label a\njumpa 1\n", "label a\njump a 1 \n", "label a\n jump a 1\n", "label a \njump a 1\n",
		// Missing or further words, and words in another order.
		"label\n", "wait\n", "fire\n", "jump\n", "label \n", "wait \n", "fire \n", "label a\njump a\n", "label a\njump 1\n", "label a\njump\n", "label a b\n", "label a a\n", "label a 0\n", "label a 1\n", "wait 5 5\n", "wait 5 0\n", "wait a\n", "wait a 5\n", "wait 5 a\n", "fire a b\n", "fire a 0\n", "fire a 5\n", "fire 5\n", "label 5\n", "label a\njump a 1 1\n", "label a\njump a a 1\n", "label a\njump 1 a\n", "label a\njump 1 1\n", "label a\njump a a\n", "label a\njump a 1 b\n", "end 0\n", "end 1\n", "end a\n", "end end\n", "a label\n", "5 wait\n", "a fire\n", "0\n", "5\n", "a\n", "label label label\n",
		// Other words.
		"stop\n", "End\n", "END\n", "ends\n", "en\n", "Label a\n", "lable a\n", "labels a\n", "WAIT 5\n", "waits 5\n", "fires a\n", "goto a\n", "label a\ngoto a 1\n", "label a\nJump a 1\n", "1 a\n", "2 5\n", "-\n", "# end\n", "label: a\n", "a:\n", "none\n", "-1\n", "end\nstop\n",
		// Numbers beyond their ranges.
		"wait 0\n", "wait -1\n", "wait 7200001\n", "wait 9223372036854775807\n", "wait -9223372036854775808\n", "label a\njump a 0\n", "label a\njump a -1\n", "label a\njump a 101\n", "label a\njump a 1000\n",
		// Labels that are missing, or there twice.
		"jump a 1\n", "jump a 1\nfire a\n", "label b\njump a 1\n", "label a\njump aa 1\n", "label a\njump b 1\nend\n", "label a\nlabel a\n", "label a\nfire x\nlabel a\n", "label a\njump a 1\nlabel a\n",
		strings.Repeat("end\n", 41), strings.Repeat("wait 1\n", 41), strings.Repeat("end\n", 10000), strings.Repeat("\n", 40), strings.Repeat("\n", 10000), strings.Repeat("end ", 10000), "wait " + strings.Repeat("0", 10000) + "\n", strings.Repeat(" ", 10000) + "end\n", "fire " + strings.Repeat("a", 10000) + "\n", strings.Repeat("a ", 10000) + "\n",
	}
	for _, number := range append(noNumbers(), "+1", "+5", "05", "005", "5.0", "\u0665", "5 ", "18446744073709551617", "4294967297") {
		texts = append(texts, "wait "+number+"\n", "label a\njump a "+number+"\n", "end\nwait "+number+"\nend\n")
	}
	for _, name := range invalidNames() {
		texts = append(texts, "label "+name+"\n", "fire "+name+"\n", "label "+name+"\njump "+name+" 1\n", "label a\njump "+name+" 1\n", "wait 1\nfire "+name+"\nend\n")
	}
	for _, s := range edgeTexts() {
		// The empty text is that of the script without lines.
		if s != "" {
			texts = append(texts, s, s+"\n", "end\n"+s, "end\n"+s+"\n", s+"end\n", "end"+s+"\n")
		}
	}
	scriptTexts.checkNotRead(t, texts)
}

func TestP16ReadScriptRefusesChangedBytes(t *testing.T) {
	for _, text := range []string{"label b9\nfire ab\nwait 120\njump b9 10\nend\n", "jump abcdefghij 100\nlabel abcdefghij\n", "wait 7200000\nwait 1\n"} {
		scriptTexts.checkChanged(t, text)
	}
}
