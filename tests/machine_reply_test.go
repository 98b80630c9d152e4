package tests

import (
	"cmp"
	"math/rand"
	"slices"
	"testing"

	"loop.example/g00222/impl"
)

func mustReplyOf(t *testing.T, m impl.Machine, client, seq, code, reply int64) {
	t.Helper()
	if got := impl.ReplyOf(m, client, seq); got != (impl.IntResult{Code: code, Value: reply}) {
		t.Errorf("the reply to %d of client %d is %v, not %d and %d, in %s", seq, client, got, code, reply, short(m))
	}
}

func TestReplyOfByTheNumber(t *testing.T) {
	m := plainMachine()
	// The one that the session has.
	mustReplyOf(t, m, 2, 1, impl.OK, impl.OK)
	mustReplyOf(t, m, 3, 5, impl.OK, impl.ErrTaken)
	mustReplyOf(t, m, 500, 77, impl.OK, impl.OK)
	mustReplyOf(t, m, 998, 1000000, impl.OK, impl.ErrState)
	for code := range int64(11) {
		mustReplyOf(t, machineOf(impl.Config{}, sessionOf(9, 9, code)), 9, 9, impl.OK, code)
	}
	for _, session := range m.Sessions {
		// Later ones are not done yet, whatever they are, and elder ones are not known any more.
		for _, far := range append([]int64{1, 2, 3, 4, 6, 7, 999999, 1000001}, farNumbers...) {
			for _, seq := range []int64{far, 0, session.Seq - 1, session.Seq + 1} {
				if seq > session.Seq {
					mustReplyOf(t, m, session.Client, seq, impl.ErrNone, 0)
				} else if seq < session.Seq {
					mustReplyOf(t, m, session.Client, seq, impl.ErrOld, 0)
				}
			}
		}
	}
}

func TestReplyOfWhoHasNoSession(t *testing.T) {
	for _, client := range append([]int64{0, 1, 4, 499, 501, 997, 999, 1000}, farNumbers...) {
		for _, seq := range []int64{-1, 0, 1, 5, 77, 1000000} {
			mustReplyOf(t, plainMachine(), client, seq, impl.ErrNone, 0)
			mustReplyOf(t, impl.Machine{}, client, seq, impl.ErrNone, 0)
			mustReplyOf(t, impl.ReplayEntries(termsLog(1, 2)).Machine, client, seq, impl.ErrNone, 0)
		}
	}
	// All 40 are found, and nobody between them.
	full := crowdedMachine(40)
	for i := range int64(40) {
		mustReplyOf(t, full, 2+2*i, 5, impl.OK, i%11)
		mustReplyOf(t, full, 1+2*i, 5, impl.ErrNone, 0)
	}
}

func TestReplyOfMachinesWithAFault(t *testing.T) {
	for _, m := range manyBadMachines(3000) {
		if want := wantMachineFault(m); want != impl.OK {
			mustReplyOf(t, m, 3, 5, want, 0)
			mustReplyOf(t, m, 3, 1, want, 0)
			mustReplyOf(t, m, 0, 0, want, 0)
		}
	}
}

func TestReplyOfManyMachines(t *testing.T) {
	random := rand.New(rand.NewSource(116))
	codes := map[int64]int{}
	for _, m := range manyMachines(2000) {
		for range 10 {
			client, seq := random.Int63n(1000), 1+random.Int63n(1000000)
			if len(m.Sessions) > 0 {
				session := m.Sessions[random.Intn(len(m.Sessions))]
				client, seq = session.Client, session.Seq+random.Int63n(5)-2
			}
			want := impl.IntResult{Code: impl.ErrNone}
			for _, session := range m.Sessions {
				if session.Client == client {
					code := map[int]int64{-1: impl.ErrNone, 1: impl.ErrOld}[cmp.Compare(session.Seq, seq)]
					want = impl.IntResult{Code: code, Value: told(code == impl.OK, session.Code)}
				}
			}
			mustReplyOf(t, m, client, seq, want.Code, want.Value)
			codes[want.Code]++
		}
	}
	mustMeet(t, codes, 2000, impl.OK, impl.ErrNone, impl.ErrOld)
}

// turnedMachines gives copies of a machine, each with one thing turned.
func turnedMachines(m impl.Machine) []impl.Machine {
	var list []impl.Machine
	for _, c := range turnedConfigs(m.Config) {
		list = append(list, machineOf(c, m.Sessions...))
	}
	turn := func(do func(m *impl.Machine)) { list = append(list, machineWith(m, do)) }
	turn(func(m *impl.Machine) { m.Sessions = append(m.Sessions, impl.Session{}) })
	turn(func(m *impl.Machine) { m.Sessions = append(m.Sessions, sessionOf(999, 1, 0)) })
	for place := range m.Sessions {
		turn(sessionOff(place, func(s *impl.Session) { s.Client++ }))
		turn(sessionOff(place, func(s *impl.Session) { s.Seq-- }))
		turn(sessionOff(place, func(s *impl.Session) { s.Code++ }))
		turn(func(m *impl.Machine) { m.Sessions = slices.Delete(m.Sessions, place, place+1) })
	}
	if len(m.Sessions) > 1 {
		turn(func(m *impl.Machine) { slices.Reverse(m.Sessions) })
	}
	return list
}

func TestSameMachinesHoldsAllAgainstEachOther(t *testing.T) {
	// No fault is asked here: what has one is the same as itself, too.
	for _, m := range append(manyMachines(80), manyBadMachines(80)...) {
		if !impl.SameMachines(m, m) || !impl.SameMachines(m, shaped(shape{}, m)) {
			t.Fatalf("%s is not the same as its copy", short(m))
		}
		for _, other := range turnedMachines(m) {
			if want := same(m, other); impl.SameMachines(m, other) != want || impl.SameMachines(other, m) != want {
				t.Fatalf("%s and %s are the same: not %v", short(m), short(other), want)
			}
		}
	}
	// Of a plain one each turn is seen: none of them leaves it as it was.
	for _, other := range turnedMachines(plainMachine()) {
		if impl.SameMachines(plainMachine(), other) || impl.SameMachines(other, plainMachine()) {
			t.Errorf("%s is the same as the plain one", short(other))
		}
	}
	if !impl.SameMachines(impl.Machine{}, impl.Machine{Sessions: []impl.Session{}}) {
		t.Error("a machine without sessions is not the same as one of nothing")
	}
}
