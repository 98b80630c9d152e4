package tests

import (
	"slices"
	"testing"

	"loop.example/g00222/impl"
)

func TestMachineFaultOfWhatHasNone(t *testing.T) {
	for _, m := range manyMachines(2000) {
		mustMachine(t, m, impl.OK)
	}
	for _, client := range []int64{1, 2, 500, 998, 999} {
		for _, seq := range []int64{1, 2, 999999, 1000000} {
			for code := range int64(11) {
				mustMachine(t, machineOf(impl.Config{}, sessionOf(client, seq, code)), impl.OK)
			}
		}
	}
	// Numbers and codes need not rise: only clients do.
	mustMachine(t, machineOf(impl.Config{}, sessionOf(1, 9, 10), sessionOf(2, 9, 10), sessionOf(3, 1, 0)), impl.OK)
}

func TestMachineFaultOfHowManyThereAre(t *testing.T) {
	for count := range int64(41) {
		mustMachine(t, crowdedMachine(count), impl.OK)
	}
	for _, count := range []int64{41, 42, 80, 400} {
		mustMachine(t, crowdedMachine(count), impl.ErrMany)
		// Ahead of whatever is not right with the sessions.
		mustMachine(t, machineOf(impl.Config{}, make([]impl.Session, count)...), impl.ErrMany)
		mustMachine(t, machineOf(impl.Config{}, slices.Repeat([]impl.Session{sessionOf(1, 1, 0)}, int(count))...), impl.ErrMany)
	}
}

// sessionOff breaks a session of a machine by its place.
func sessionOff(place int, do func(s *impl.Session)) func(m *impl.Machine) {
	return func(m *impl.Machine) { do(&m.Sessions[place]) }
}

// machineFaults are the faults of the plain machine, in the order of the chapter: one list for what is asked together.
func machineFaults() [][]broken[impl.Machine] {
	var configs, sessions []broken[impl.Machine]
	for _, c := range manyBadConfigs(60) {
		if code := wantConfigFault(c); code != impl.OK {
			configs = append(configs, breaks(code, func(m *impl.Machine) { m.Config = c })...)
		}
	}
	for place := range 4 {
		for _, far := range append([]int64{-1, 0, 1000, 1000001}, farNumbers...) {
			sessions = append(sessions, breaks(impl.ErrRange, sessionOff(place, func(s *impl.Session) { s.Client = far }))...)
			if far != 1000 {
				sessions = append(sessions, breaks(impl.ErrRange, sessionOff(place, func(s *impl.Session) { s.Seq = far }))...)
			}
			if far != 0 {
				sessions = append(sessions, breaks(impl.ErrRange, sessionOff(place, func(s *impl.Session) { s.Code = far }))...)
			}
		}
		sessions = append(sessions, breaks(impl.ErrRange, sessionOff(place, func(s *impl.Session) { s.Code = 11 }))...)
	}
	for place := range 3 {
		sessions = append(sessions, breaks(impl.ErrForm,
			func(m *impl.Machine) { m.Sessions[place+1].Client = m.Sessions[place].Client },
			func(m *impl.Machine) { m.Sessions[place+1].Client = m.Sessions[place].Client - 1 },
			func(m *impl.Machine) { m.Sessions[place+1] = m.Sessions[place] },
			func(m *impl.Machine) {
				m.Sessions[place], m.Sessions[place+1] = m.Sessions[place+1], m.Sessions[place]
			})...)
	}
	return [][]broken[impl.Machine]{
		configs,
		breaks(impl.ErrMany,
			func(m *impl.Machine) { m.Sessions = slices.Repeat(m.Sessions, 11) },
			func(m *impl.Machine) { m.Sessions = crowdedMachine(41).Sessions }),
		sessions,
	}
}

func TestMachineFaultIsTheFirstOne(t *testing.T) {
	stages := machineFaults()
	for place, stage := range stages {
		for _, one := range stage {
			mustMachine(t, machineWith(plainMachine(), one.do), one.code)
			// Whatever else is broken that is asked behind it.
			for _, later := range stages[place+1:] {
				for _, other := range later {
					m := machineWith(plainMachine(), other.do)
					one.do(&m)
					mustMachine(t, m, one.code)
				}
			}
		}
	}
}

func TestMachineFaultGoesSessionBySession(t *testing.T) {
	both := func(want int64, list ...func(m *impl.Machine)) {
		t.Helper()
		m := plainMachine()
		for _, do := range list {
			do(&m)
		}
		mustMachine(t, m, want)
	}
	falls := func(s *impl.Session) { s.Client = 1 }
	odd := func(s *impl.Session) { s.Code = 11 }
	// Where one stands is asked behind its own fields and ahead of those of the next one.
	both(impl.ErrForm, sessionOff(1, falls), sessionOff(2, odd))
	both(impl.ErrRange, sessionOff(1, falls), sessionOff(1, odd))
	both(impl.ErrRange, sessionOff(1, odd), sessionOff(2, falls))
	both(impl.ErrForm, sessionOff(2, falls), sessionOff(3, odd))
	both(impl.ErrRange, sessionOff(0, odd), sessionOff(1, falls))
	// One that is no client's at all falls, too, but is told by its number.
	both(impl.ErrRange, sessionOff(1, func(s *impl.Session) { s.Client = 0 }))
	both(impl.ErrRange, sessionOff(0, func(s *impl.Session) { s.Client = 1000 }))
}

func TestMachineFaultLooksAtEachSession(t *testing.T) {
	for place := range 40 {
		for _, full := range []impl.Machine{fullMachine(), crowdedMachine(40)} {
			mustMachine(t, machineWith(full, sessionOff(place, func(s *impl.Session) { s.Seq = 0 })), impl.ErrRange)
			mustMachine(t, machineWith(full, sessionOff(place, func(s *impl.Session) { s.Code = 11 })), impl.ErrRange)
			if place > 0 {
				mustMachine(t, machineWith(full, func(m *impl.Machine) { m.Sessions[place].Client = m.Sessions[place-1].Client }), impl.ErrForm)
			}
		}
	}
}

func TestMachineFaultOfManyMachines(t *testing.T) {
	codes := map[int64]int{}
	for _, m := range manyBadMachines(8000) {
		mustMachine(t, m, wantMachineFault(m))
		codes[wantMachineFault(m)]++
	}
	mustMeet(t, codes, 100, impl.OK, impl.ErrForm, impl.ErrMany, impl.ErrRange)
}
