package tests

import (
	"math/rand"
	"slices"
	"testing"

	"loop.example/g00222/impl"
)

func mustEntry(t *testing.T, x impl.Entry, want int64) {
	t.Helper()
	if code := impl.EntryFault(x); code != want {
		t.Errorf("the fault of the entry %v is %d, not %d", x, code, want)
	}
}

func mustLog(t *testing.T, log []impl.Entry, want int64) {
	t.Helper()
	if code := impl.LogFault(log); code != want {
		t.Errorf("the fault of the log %v is %d, not %d", log, code, want)
	}
}

func TestEntryFaultOfWhatHasNone(t *testing.T) {
	for _, term := range []int64{1, 2, 99999, 100000} {
		mustEntry(t, impl.Entry{Term: term}, impl.OK)
		for _, client := range []int64{1, 2, 998, 999} {
			for _, seq := range []int64{1, 2, 999999, 1000000} {
				for _, x := range plainCmds() {
					mustEntry(t, askedOf(term, client, seq, x), impl.OK)
				}
			}
		}
	}
}

func TestEntryFaultOfNumbersThatAreNotSo(t *testing.T) {
	good, bad := plainCmds()[0], cmdOf(0, -2, -1, -1, -1, -1)
	for _, far := range append([]int64{-1, 1000001}, farNumbers...) {
		for _, x := range []impl.Cmd{good, bad, {}} {
			// Of a client and of nobody, and ahead of whatever else is not right.
			for _, other := range []int64{0, 1} {
				mustEntry(t, askedOf(far, other, other, x), impl.ErrRange)
				mustEntry(t, askedOf(1, far, other, x), impl.ErrRange)
				mustEntry(t, askedOf(1, other, far, x), impl.ErrRange)
			}
			mustEntry(t, askedOf(far, far, far, x), impl.ErrRange)
		}
	}
	for _, x := range []impl.Cmd{good, bad, {}} {
		mustEntry(t, askedOf(0, 1, 1, x), impl.ErrRange)
		mustEntry(t, askedOf(0, 0, 0, x), impl.ErrRange)
		mustEntry(t, askedOf(100001, 1, 1, x), impl.ErrRange)
		mustEntry(t, askedOf(100001, 0, 0, x), impl.ErrRange)
		mustEntry(t, askedOf(1, 1000, 1, x), impl.ErrRange)
		mustEntry(t, askedOf(1, 1000, 0, x), impl.ErrRange)
		mustEntry(t, askedOf(0, 1, 0, x), impl.ErrRange)
		mustEntry(t, askedOf(0, 0, 1, x), impl.ErrRange)
	}
	mustEntry(t, impl.Entry{}, impl.ErrRange)
}

func TestEntryFaultOfAClientWithoutASeqAndASeqWithoutAClient(t *testing.T) {
	commands := append(plainCmds(), impl.Cmd{}, cmdOf(1, -2, 3, 500, 2, 0), cmdOf(1, -1, 3, 500, 10, 0), cmdOf(10, 0, 0, 0, 0, 0))
	for _, x := range commands {
		for _, term := range []int64{1, 100000} {
			// Ahead of the fault of the command, whether it has one or not.
			mustEntry(t, askedOf(term, 1, 0, x), impl.ErrForm)
			mustEntry(t, askedOf(term, 999, 0, x), impl.ErrForm)
			mustEntry(t, askedOf(term, 0, 1, x), impl.ErrForm)
			mustEntry(t, askedOf(term, 0, 1000000, x), impl.ErrForm)
		}
	}
}

func TestEntryFaultOfItsCommand(t *testing.T) {
	mustEntry(t, askedOf(1, 1, 1, impl.Cmd{}), impl.ErrForm)
	mustEntry(t, askedOf(1, 1, 1, cmdOf(10, -1, 3, 500, 2, 0)), impl.ErrForm)
	mustEntry(t, askedOf(1, 1, 1, cmdOf(impl.CmdForget, -1, 3, 1, 0, 0)), impl.ErrForm)
	mustEntry(t, askedOf(1, 1, 1, cmdOf(impl.CmdForget, -1, 0, 0, 0, 0)), impl.ErrRange)
	mustEntry(t, askedOf(1, 1, 1, cmdOf(impl.CmdForget, -1, 0, 1, 0, 0)), impl.ErrRange)
	mustEntry(t, askedOf(1, 1, 1, cmdOf(impl.CmdUp, 1000001, 3, 0, 1, 0)), impl.ErrRange)
	random := rand.New(rand.NewSource(71))
	codes := map[int64]int{}
	for range 20000 {
		x := someCmd(random, plainConfig())
		x.Expect += []int64{0, 0, 0, -1, 1}[random.Intn(5)]
		code := wantCmdFault(x)
		codes[code]++
		mustEntry(t, askedOf(1, 1, 1, x), code)
		mustEntry(t, askedOf(100000, 999, 1000000, x), code)
	}
	if codes[impl.OK] < 100 || codes[impl.ErrForm] < 100 || codes[impl.ErrRange] < 100 {
		t.Errorf("the faults are %v", codes)
	}
}

func TestEntryFaultOfAnEntryOfNothing(t *testing.T) {
	// Who asks for nothing has no command: one without a fault is too much, as is one with any.
	for _, x := range plainCmds() {
		mustEntry(t, askedOf(1, 0, 0, x), impl.ErrForm)
	}
	for _, n := range append([]int64{-1, 1, 6, 1000001}, farNumbers...) {
		for _, x := range []impl.Cmd{{Kind: n}, {Expect: n}, {Name: n}, {Addr: n}, {Number: n}, {Proto: n}} {
			mustEntry(t, askedOf(1, 0, 0, x), impl.ErrForm)
			mustEntry(t, askedOf(100000, 0, 0, x), impl.ErrForm)
		}
	}
}

func TestEntryFaultOfManyEntries(t *testing.T) {
	random := rand.New(rand.NewSource(72))
	codes := map[int64]int{}
	for i := range 60000 {
		x := someEntry(random, 1+random.Int63n(100000))
		for range i % 3 {
			spoilEntry(random, &x)
		}
		codes[wantEntryFault(x)]++
		mustEntry(t, x, wantEntryFault(x))
	}
	if codes[impl.OK] < 1000 || codes[impl.ErrForm] < 1000 || codes[impl.ErrRange] < 1000 {
		t.Errorf("the faults are %v", codes)
	}
}

func TestLogFaultOfWhatHasNone(t *testing.T) {
	for _, log := range manyLogs(500) {
		mustLog(t, log, impl.OK)
	}
	for count := range 41 {
		mustLog(t, termsLog(evenTerms(count, 100000)...), impl.OK)
		mustLog(t, fullLog()[:count], impl.OK)
	}
}

func TestLogFaultOfTooManyEntries(t *testing.T) {
	for _, count := range []int{41, 42, 80, 1000} {
		mustLog(t, termsLog(evenTerms(count, 1)...), impl.ErrMany)
		// Ahead of what the entries have: faults, and terms that fall.
		mustLog(t, make([]impl.Entry, count), impl.ErrMany)
		mustLog(t, termsLog(append([]int64{9, 8, 100001}, evenTerms(count-3, 7)...)...), impl.ErrMany)
	}
	mustLog(t, append(fullLog(), impl.Entry{Term: 100000}), impl.ErrMany)
	mustLog(t, append(fullLog(), impl.Entry{}), impl.ErrMany)
	mustLog(t, append(fullLog(), impl.Entry{Term: 1}), impl.ErrMany)
}

func TestLogFaultOfTermsThatFall(t *testing.T) {
	for _, terms := range [][]int64{
		{2, 1}, {100000, 1}, {100000, 99999}, {1, 2, 1}, {1, 5, 3, 4}, {1, 1, 2, 2, 1, 1}, {3, 2, 1}, {5, 4, 5, 6}, {2, 1, 2}, {1, 2, 3, 2, 3, 4},
	} {
		mustLog(t, termsLog(terms...), impl.ErrForm)
		mustLog(t, markedLog(7, terms...), impl.ErrForm)
	}
	for place := 1; place < 40; place++ {
		terms := append(evenTerms(place, 50), evenTerms(40-place, 49)...)
		mustLog(t, termsLog(terms...), impl.ErrForm)
		slices.Sort(terms)
		mustLog(t, termsLog(terms...), impl.OK)
	}
}

func TestLogFaultOfItsEntries(t *testing.T) {
	for place := range 40 {
		for code, bad := range map[int64][]impl.Entry{
			impl.ErrRange: {{}, {Term: 100001}, {Term: -1}, askedOf(1, 1000, 1, plainCmds()[0]), askedOf(1, 1, -1, plainCmds()[0]), askedOf(1, 1, 1, cmdOf(4, -1, 0, 0, 0, 0))},
			impl.ErrForm:  {askedOf(9, 1, 0, plainCmds()[0]), askedOf(9, 0, 1, plainCmds()[0]), askedOf(9, 1, 1, impl.Cmd{}), askedOf(9, 0, 0, plainCmds()[0])},
		} {
			for _, x := range bad {
				log := termsLog(evenTerms(40, 9)...)
				log[place] = x
				mustLog(t, log, code)
				mustLog(t, log[:place+1], code)
				mustLog(t, log[:place], impl.OK)
			}
		}
	}
}

func TestLogFaultIsTheFirstOne(t *testing.T) {
	free := cmdOf(4, -1, 0, 0, 0, 0)
	for want, logs := range map[int64][][]impl.Entry{
		impl.ErrForm: {
			// One that falls ahead of one whose numbers are not so, and one with a form of its own ahead of it.
			termsLog(3, 2, 100001), termsLog(3, 2, 0), {{Term: 3}, askedOf(3, 1, 0, free), {}}, {{Term: 3}, {Term: 1}, askedOf(3, 1, 1, free)},
			{askedOf(3, 1, 0, free), askedOf(100001, 1, 1, free)},
		},
		impl.ErrRange: {
			// What an entry has itself is asked ahead of the one that it stands behind.
			termsLog(3, 0), termsLog(3, -1, 2), {{Term: 3}, askedOf(2, 1, 1, free)}, {{Term: 3}, askedOf(2, 1000, 0, free)},
			// And what comes first ahead of what falls behind it.
			termsLog(0, 3, 2), termsLog(100001, 1), {askedOf(1, 1, 1, free), {Term: 3}, {Term: 2}},
		},
	} {
		for _, log := range logs {
			mustLog(t, log, want)
		}
	}
}

func TestLogFaultOfManyLogs(t *testing.T) {
	for _, log := range manyBadLogs(20000) {
		mustLog(t, log, wantLogFault(log))
	}
}
