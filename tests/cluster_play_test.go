package tests

import (
	"math/rand"
	"reflect"
	"slices"
	"testing"

	"loop.example/g00222/impl"
)

// story is a cluster to which anything happens, with what is told of how often.
type story struct {
	t      *testing.T
	c      impl.Cluster
	honest bool
	codes  map[int64]int
}

// become puts the cluster to what it came to be, and looks at what is promised of any.
func (s *story) become(what string, got impl.ClusterResult) {
	s.t.Helper()
	s.codes[got.Code]++
	if got.Code != impl.OK {
		mustNotStand(s.t, got, got.Code)
		// Among nodes that came of new ones every mail may come, as long as there is room for a win.
		if s.honest && what == "deliver" && len(s.c.Wins) < 400 {
			s.t.Fatalf("a mail of %s does not come: %d", short(s.c), got.Code)
		}
		return
	}
	before, after := s.c, got.Cluster
	if impl.ClusterFault(after) != impl.OK || wantClusterFault(after) != impl.OK || len(after.Nodes) != len(before.Nodes) {
		s.t.Fatalf("%s makes %s of %s", what, short(after), short(before))
	}
	if !begins(after.Seals, before.Seals) || !begins(after.Wins, before.Wins) || len(after.Wins) > len(before.Wins)+1 {
		s.t.Fatalf("%s makes %v and %v of %v and %v", what, after.Seals, after.Wins, before.Seals, before.Wins)
	}
	turned := 0
	for id, n := range after.Nodes {
		one := before.Nodes[id]
		if !reflect.DeepEqual(shaped(shape{}, n), shaped(shape{}, one)) {
			turned++
		}
		if what != "crash" && (n.Term < one.Term || n.Commit < one.Commit) || !begins(n.Log, one.Log[:one.Commit]) {
			s.t.Fatalf("%s makes %s of %s", what, short(n), short(one))
		}
	}
	if turned > 1 {
		s.t.Fatalf("%s makes %s of %s", what, short(after), short(before))
	}
	s.c = after
	if s.honest {
		s.lookTogether()
	}
}

// begins tells whether a list begins with all of another one.
func begins[T comparable](list, first []T) bool {
	return len(list) >= len(first) && slices.Equal(list[:len(first)], first)
}

// lookTogether looks at what holds in a cluster that came of a new one.
func (s *story) lookTogether() {
	s.t.Helper()
	known := []impl.Entry{}
	for _, sealed := range s.c.Seals {
		known = append(known, sealed.Entry)
		if sealed.Term < sealed.Entry.Term {
			s.t.Fatalf("%v was known ahead of its term", sealed)
		}
	}
	for _, n := range s.c.Nodes {
		if !begins(known, n.Log[:n.Commit]) {
			s.t.Fatalf("%s knows of something else than %v", short(n), known)
		}
		if leads := n.Role == impl.RoleLead; leads && !slices.Contains(s.c.Wins, impl.Won{Term: n.Term, Node: n.Id}) {
			s.t.Fatalf("%s leads, but the wins are %v", short(n), s.c.Wins)
		}
	}
	leaders := map[int64]int64{}
	for _, won := range s.c.Wins {
		if _, has := leaders[won.Term]; has {
			s.t.Fatalf("the wins are %v", s.c.Wins)
		}
		leaders[won.Term] = won.Node
	}
}

// someStep lets anything happen; the calmer, the more mails come.
func (s *story) someStep(random *rand.Rand, calm int) {
	s.t.Helper()
	id, mails := random.Int63n(int64(len(s.c.Nodes))), int64(len(s.c.Mails))
	at := random.Int63n(mails + 1)
	switch random.Intn(12 + calm) {
	case 0:
		if random.Intn(3) == 0 {
			s.become("timeout", impl.TimeoutAt(s.c, id))
		}
	case 1:
		if random.Intn(4) == 0 {
			s.become("crash", impl.CrashAt(s.c, id))
		}
	case 2, 3:
		x := someEntry(random, 1)
		s.become("ask", impl.AskAt(s.c, id, x.Client, x.Seq, x.Cmd))
	case 4, 5, 6:
		s.become("spread", impl.SpreadAt(s.c, id))
	case 7:
		s.become("copy", impl.CopyMail(s.c, at))
	case 8:
		s.become("drop", impl.DropMail(s.c, at))
	default:
		if at < mails {
			s.become("deliver", impl.DeliverMail(s.c, at))
		}
	}
}

func TestWhateverHappensToANewCluster(t *testing.T) {
	seals, wins, full := 0, 0, 0
	codes := map[int64]int{}
	for seed := range int64(240) {
		random := rand.New(rand.NewSource(seed))
		s := &story{t, stands(t, impl.NewCluster(1+seed%5)), true, codes}
		for range 700 {
			s.someStep(random, []int{-2, 2, 8, 20}[seed%4])
			full += len(s.c.Mails) / 80
		}
		seals, wins = seals+len(s.c.Seals), wins+len(s.c.Wins)
	}
	if seals < 1500 || wins < 600 || full < 80 {
		t.Errorf("there are %d seals and %d wins, and there was no room for mails %d times", seals, wins, full)
	}
	mustMeet(t, codes, 100, impl.OK, impl.ErrMany, impl.ErrState, impl.ErrRange)
}

func TestWhateverHappensToAnyCluster(t *testing.T) {
	random := rand.New(rand.NewSource(96))
	codes := map[int64]int{}
	for _, c := range manyClusters(500) {
		s := &story{t, c, false, codes}
		for range 40 {
			s.someStep(random, 8)
		}
	}
	mustMeet(t, codes, 100, impl.OK, impl.ErrMany, impl.ErrState, impl.ErrRange)
}

func TestNothingAgreedIsTakenBackWhoeverCrashes(t *testing.T) {
	// After each step all nodes start again, and another one leads: what was sealed goes on to be.
	for peers := int64(1); peers <= 5; peers++ {
		s := &story{t, stands(t, impl.NewCluster(peers)), true, map[int64]int{}}
		settle := func() {
			for len(s.c.Mails) > 0 {
				s.become("deliver", impl.DeliverMail(s.c, 0))
			}
		}
		for round := range int64(30) {
			leads := round % peers
			for id := range peers {
				s.become("crash", impl.CrashAt(s.c, id))
			}
			s.become("timeout", impl.TimeoutAt(s.c, leads))
			settle()
			s.become("ask", impl.AskAt(s.c, leads, 4, round+1, plainCmds()[round%9]))
			for range 2 {
				s.become("spread", impl.SpreadAt(s.c, leads))
				settle()
			}
			last := s.c.Seals[len(s.c.Seals)-1]
			if int64(len(s.c.Seals)) != round+1 || last != (impl.Seal{Term: round + 1, Entry: askedOf(round+1, 4, round+1, plainCmds()[round%9])}) {
				t.Fatalf("in round %d the seals are %v", round, s.c.Seals)
			}
		}
	}
}
