package tests

import (
	"math/rand"
	"slices"
	"testing"

	"loop.example/g00222/impl"
)

// mustStay wants that an entry changes nothing, and is replied to so.
func mustStay(t *testing.T, m impl.Machine, x impl.Entry, reply int64) {
	t.Helper()
	mustGive(t, impl.ApplyEntry(m, x), impl.MachineResult{Reply: reply, Machine: m})
}

// mustDo wants that an entry is done, and what there is then.
func mustDo(t *testing.T, m impl.Machine, x impl.Entry, reply int64, c impl.Config, sessions ...impl.Session) {
	t.Helper()
	mustGive(t, impl.ApplyEntry(m, x), impl.MachineResult{Reply: reply, Fresh: true, Machine: machineOf(c, sessions...)})
}

func mustNotDo(t *testing.T, m impl.Machine, x impl.Entry, code int64) {
	t.Helper()
	mustGive(t, impl.ApplyEntry(m, x), impl.MachineResult{Code: code})
}

// weighs asks for another weight of the backend 3 of the plain configuration.
func weighs(client, seq, weight int64) impl.Entry {
	return askedOf(1, client, seq, cmdOf(impl.CmdWeight, -1, 3, 0, weight, 0))
}

// weighed is the plain configuration behind that.
func weighed(weight int64) impl.Config {
	c := plainConfig()
	c.Version, c.Backends[0].Weight = 13, weight
	return c
}

func TestApplyEntryOfNothing(t *testing.T) {
	for _, m := range manyMachines(300) {
		for _, term := range []int64{1, 2, 100000} {
			mustStay(t, m, impl.Entry{Term: term}, impl.OK)
		}
	}
}

func TestApplyEntryOfAFirstEntryOfAClient(t *testing.T) {
	m := plainMachine()
	two, three, five, last := m.Sessions[0], m.Sessions[1], m.Sessions[2], m.Sessions[3]
	// Ahead of those of the others, between them, and behind them.
	mustDo(t, m, weighs(1, 4, 7), impl.OK, weighed(7), sessionOf(1, 4, 0), two, three, five, last)
	mustDo(t, m, weighs(4, 1, 7), impl.OK, weighed(7), two, three, sessionOf(4, 1, 0), five, last)
	mustDo(t, m, weighs(499, 1, 7), impl.OK, weighed(7), two, three, sessionOf(499, 1, 0), five, last)
	mustDo(t, m, weighs(501, 1000000, 7), impl.OK, weighed(7), two, three, five, sessionOf(501, 1000000, 0), last)
	mustDo(t, m, weighs(999, 3, 7), impl.OK, weighed(7), two, three, five, last, sessionOf(999, 3, 0))
	// And where there are none.
	mustDo(t, machineOf(plainConfig()), weighs(5, 9, 0), impl.OK, weighed(0), sessionOf(5, 9, 0))
	first := impl.Config{Version: 1, Backends: []impl.Backend{backendOf(3, 500, 2, impl.StageOn, true)}}
	mustDo(t, impl.Machine{}, askedOf(1, 3, 5, plainCmds()[0]), impl.OK, first, sessionOf(3, 5, 0))
}

func TestApplyEntryByItsNumber(t *testing.T) {
	m := plainMachine()
	two, three, five, last := m.Sessions[0], m.Sessions[1], m.Sessions[2], m.Sessions[3]
	// The one that the session has: its code, whatever it is.
	mustStay(t, m, weighs(500, 77, 7), impl.OK)
	mustStay(t, m, weighs(3, 5, 7), impl.ErrTaken)
	mustStay(t, m, weighs(998, 1000000, 7), impl.ErrState)
	mustStay(t, m, weighs(2, 1, 7), impl.OK)
	// An elder one, were it done then or not.
	for _, seq := range []int64{1, 2, 75, 76} {
		mustStay(t, m, weighs(500, seq, 7), impl.ErrOld)
	}
	for _, seq := range []int64{1, 4} {
		mustStay(t, m, weighs(3, seq, 7), impl.ErrOld)
	}
	mustStay(t, m, weighs(998, 999999, 7), impl.ErrOld)
	// A later one, the next or not.
	for _, seq := range []int64{78, 79, 1000000} {
		mustDo(t, m, weighs(500, seq, 7), impl.OK, weighed(7), two, three, sessionOf(500, seq, 0), last)
	}
	for _, seq := range []int64{6, 77, 1000000} {
		mustDo(t, m, weighs(3, seq, 7), impl.OK, weighed(7), two, sessionOf(3, seq, 0), five, last)
	}
	mustDo(t, m, weighs(2, 2, 7), impl.OK, weighed(7), sessionOf(2, 2, 0), three, five, last)
}

func TestApplyEntryLooksAtNothingButClientAndNumber(t *testing.T) {
	for code := range int64(11) {
		m := machineOf(plainConfig(), sessionOf(3, 5, code))
		for _, term := range []int64{1, 100000} {
			for _, x := range append(plainCmds(), cmdOf(impl.CmdWeight, 12, 3, 0, 7, 0), cmdOf(impl.CmdBackend, 0, 999, 0, 0, 0)) {
				// The number is that of what was done, though this command would do something, or have another code.
				mustStay(t, m, askedOf(term, 3, 5, x), code)
				mustStay(t, m, askedOf(term, 3, 4, x), impl.ErrOld)
				// Of another client it is another one.
				if done := impl.ApplyEntry(m, askedOf(term, 2, 5, x)); !done.Fresh || len(done.Machine.Sessions) != 2 || done.Machine.Sessions[1] != m.Sessions[0] {
					t.Errorf("%v of client 2 gives %s", x, short(done))
				}
			}
		}
	}
}

func TestApplyEntryKeepsTheCodeOfItsCommand(t *testing.T) {
	plain, last, full := plainConfig(), plainConfig(), fullConfig()
	last.Version, full.Version = 1000000, 999999
	for _, refused := range []struct {
		c    impl.Config
		x    impl.Cmd
		code int64
	}{
		{last, cmdOf(impl.CmdWeight, -1, 3, 0, 1, 0), impl.ErrRange}, {last, cmdOf(impl.CmdWeight, 1000000, 3, 0, 1, 0), impl.ErrRange},
		{plain, cmdOf(impl.CmdWeight, 11, 3, 0, 1, 0), impl.ErrOld}, {plain, cmdOf(impl.CmdWeight, 13, 3, 0, 1, 0), impl.ErrOld},
		{plain, cmdOf(impl.CmdBackend, -1, 3, 1, 1, 0), impl.ErrTaken}, {plain, cmdOf(impl.CmdVip, -1, 0, 9, 80, 6), impl.ErrTaken},
		{full, cmdOf(impl.CmdBackend, -1, 4, 1, 1, 0), impl.ErrMany}, {full, cmdOf(impl.CmdVip, -1, 0, 9, 80, 6), impl.ErrMany},
		{plain, cmdOf(impl.CmdWeight, -1, 4, 0, 1, 0), impl.ErrNone}, {plain, cmdOf(impl.CmdDetach, -1, 3, 9, 80, 17), impl.ErrNone}, {impl.Config{}, plainCmds()[8], impl.ErrNone},
		{plain, cmdOf(impl.CmdForget, -1, 3, 0, 0, 0), impl.ErrState}, {plain, cmdOf(impl.CmdForget, -1, 77, 0, 0, 0), impl.ErrBusy},
	} {
		one := sessionOf(500, 8, impl.OK)
		// Of a client that is new, and of one that is not, and whose code was another one.
		mustDo(t, machineOf(refused.c, one), askedOf(1, 3, 5, refused.x), refused.code, refused.c, sessionOf(3, 5, refused.code), one)
		m := machineOf(refused.c, sessionOf(3, 4, impl.OK), one)
		mustDo(t, m, askedOf(1, 3, 5, refused.x), refused.code, refused.c, sessionOf(3, 5, refused.code), one)
		m = impl.ApplyEntry(m, askedOf(1, 3, 5, refused.x)).Machine
		mustMachine(t, m, impl.OK)
		// It is not tried again, nor is what was asked ahead of it.
		mustStay(t, m, askedOf(1, 3, 5, refused.x), refused.code)
		mustStay(t, m, askedOf(1, 3, 5, plainCmds()[0]), refused.code)
		mustStay(t, m, askedOf(1, 3, 4, plainCmds()[0]), impl.ErrOld)
	}
}

func TestApplyEntryIsNotTriedAgainWhereItWouldBeDoneNow(t *testing.T) {
	// The backend was not there when its weight was asked for, and is there when that comes once more.
	weight, backend := askedOf(1, 3, 1, plainCmds()[1]), askedOf(1, 4, 1, plainCmds()[0])
	m := impl.ApplyEntry(impl.Machine{}, weight).Machine
	m = impl.ApplyEntry(m, backend).Machine
	mustStay(t, m, weight, impl.ErrNone)
	again := weight
	again.Seq = 2
	c := m.Config
	c.Version = 2
	mustDo(t, m, again, impl.OK, c, sessionOf(3, 2, impl.OK), sessionOf(4, 1, impl.OK))
}

func TestApplyEntryOfAsManySessionsAsThereMayBe(t *testing.T) {
	m := crowdedMachine(40)
	for place, session := range m.Sessions {
		// Those who have a session go on to be heard.
		mustStay(t, m, weighs(session.Client, 5, 7), int64(place)%11)
		mustStay(t, m, weighs(session.Client, 4, 7), impl.ErrOld)
		sessions := slices.Clone(m.Sessions)
		sessions[place] = sessionOf(session.Client, 6, impl.OK)
		mustDo(t, m, weighs(session.Client, 6, 7), impl.OK, weighed(7), sessions...)
		sessions[place].Code = impl.ErrNone
		mustDo(t, m, askedOf(1, session.Client, 6, cmdOf(impl.CmdWeight, -1, 4, 0, 7, 0)), impl.ErrNone, plainConfig(), sessions...)
		// One more is not, ahead of any other, between them or behind all, whether its command has a code or not.
		mustNotDo(t, m, weighs(session.Client-1, 1, 7), impl.ErrMany)
		mustNotDo(t, m, askedOf(1, session.Client-1, 6, cmdOf(impl.CmdWeight, -1, 4, 0, 7, 0)), impl.ErrMany)
	}
	for _, client := range []int64{1, 81, 82, 500, 999} {
		mustNotDo(t, m, weighs(client, 1, 7), impl.ErrMany)
		mustNotDo(t, fullMachine(), weighs(client%900+60, 1, 7), impl.ErrMany)
	}
	mustStay(t, m, impl.Entry{Term: 1}, impl.OK)
	mustStay(t, fullMachine(), impl.Entry{Term: 1}, impl.OK)
	// There is room for one.
	m = crowdedMachine(39)
	mustDo(t, m, weighs(999, 1, 7), impl.OK, weighed(7), append(slices.Clone(m.Sessions), sessionOf(999, 1, 0))...)
	mustDo(t, m, weighs(1, 1, 7), impl.OK, weighed(7), append([]impl.Session{sessionOf(1, 1, 0)}, m.Sessions...)...)
}

func TestApplyEntryOfMachinesWithAFault(t *testing.T) {
	entries := []impl.Entry{weighs(3, 5, 7), weighs(3, 6, 7), weighs(1, 1, 7), {Term: 1}, {}, {Term: 1, Client: 3}, askedOf(1, 3, 6, impl.Cmd{})}
	for _, m := range manyBadMachines(3000) {
		if want := wantMachineFault(m); want != impl.OK {
			for _, x := range entries {
				// Ahead of whatever is not right with the entry, and of what it would do.
				mustNotDo(t, m, x, want)
			}
		}
	}
	for _, stage := range machineFaults() {
		for _, one := range stage {
			mustNotDo(t, machineWith(plainMachine(), one.do), impl.Entry{Term: 1}, one.code)
		}
	}
}

func TestApplyEntryOfEntriesWithAFault(t *testing.T) {
	random := rand.New(rand.NewSource(113))
	codes := map[int64]int{}
	machines := manyMachines(100)
	for range 20000 {
		x := someEntry(random, 1+random.Int63n(9))
		for range 1 + random.Intn(2) {
			spoilEntry(random, &x)
		}
		if want := wantEntryFault(x); want != impl.OK {
			codes[want]++
			mustNotDo(t, machines[random.Intn(len(machines))], x, want)
		}
	}
	mustMeet(t, codes, 1000, impl.ErrForm, impl.ErrRange)
	// Ahead of all that hangs on the session: the same number, an elder one, and no room.
	bad := cmdOf(impl.CmdWeight, -1, 3, 0, 10, 0)
	for _, seq := range []int64{1, 5, 6} {
		mustNotDo(t, plainMachine(), askedOf(1, 3, seq, bad), impl.ErrRange)
		mustNotDo(t, crowdedMachine(40), askedOf(1, 3, seq, bad), impl.ErrRange)
		mustNotDo(t, plainMachine(), askedOf(1, 3, seq, impl.Cmd{}), impl.ErrForm)
		mustNotDo(t, crowdedMachine(40), askedOf(0, 3, seq, plainCmds()[0]), impl.ErrRange)
	}
	mustNotDo(t, plainMachine(), askedOf(1, 3, 0, plainCmds()[0]), impl.ErrForm)
	mustNotDo(t, plainMachine(), askedOf(1, 0, 5, impl.Cmd{}), impl.ErrForm)
	mustNotDo(t, plainMachine(), askedOf(1, 0, 0, plainCmds()[0]), impl.ErrForm)
	mustNotDo(t, crowdedMachine(40), askedOf(1, 1000, 1, plainCmds()[0]), impl.ErrRange)
}

func TestApplyEntryOfManyEntries(t *testing.T) {
	random := rand.New(rand.NewSource(114))
	replies, codes, fresh := map[int64]int{}, map[int64]int{}, 0
	for _, m := range manyMachines(1500) {
		for range 20 {
			x := askedOf(1+random.Int63n(100000), random.Int63n(1000), 1+someUpTo(random, 999999), someCmd(random, m.Config))
			if len(m.Sessions) > 0 && random.Intn(3) > 0 {
				session := m.Sessions[random.Intn(len(m.Sessions))]
				x.Client, x.Seq = session.Client, session.Seq+random.Int63n(3)-1
			}
			if random.Intn(9) == 0 {
				x = impl.Entry{Term: x.Term}
			}
			got, want := impl.ApplyEntry(m, x), wantApplyEntry(m, x)
			if !same(got, want) {
				t.Fatalf("%v gives\n%s, not\n%s, of\n%s", x, short(got), short(want), short(m))
			}
			if got.Code == impl.OK {
				mustMachine(t, got.Machine, impl.OK)
				replies[got.Reply]++
			}
			codes[got.Code]++
			if got.Fresh {
				fresh++
			}
		}
	}
	mustMeet(t, codes, 300, impl.OK, impl.ErrForm, impl.ErrMany, impl.ErrRange)
	mustMeet(t, replies, 40, impl.OK, impl.ErrForm, impl.ErrMany, impl.ErrRange, impl.ErrNone, impl.ErrText, impl.ErrSum, impl.ErrTaken, impl.ErrBusy, impl.ErrOld, impl.ErrState)
	if fresh < 3000 || fresh > codes[impl.OK]-3000 {
		t.Errorf("of %d entries %d were done", codes[impl.OK], fresh)
	}
}
