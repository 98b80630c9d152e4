package tests

import (
	"math/rand"
	"testing"

	"loop.example/g00222/impl"
)

func TestNewNode(t *testing.T) {
	for peers := int64(-2); peers < 9; peers++ {
		for id := int64(-2); id < 9; id++ {
			got := impl.NewNode(id, peers)
			if peers >= 1 && peers <= 5 && id >= 0 && id < peers {
				mustBecome(t, got, impl.Node{Id: id, Peers: peers, Voted: -1})
				mustNode(t, got.Node, impl.OK)
			} else {
				mustNotBecome(t, got, impl.ErrRange)
			}
		}
	}
	for _, far := range farNumbers {
		mustNotBecome(t, impl.NewNode(far, 3), impl.ErrRange)
		mustNotBecome(t, impl.NewNode(0, far), impl.ErrRange)
		mustNotBecome(t, impl.NewNode(far, far), impl.ErrRange)
	}
}

func TestTimeoutNodeByHand(t *testing.T) {
	mustBecome(t, impl.TimeoutNode(followerOf(1, 0, -1)), askerOf(1, 1), voteOf(1, 0, 1, 0, 0), voteOf(1, 2, 1, 0, 0))
	// It votes for itself, whomever it voted for in the term ahead, and keeps what it knows to be agreed.
	knows := func(n *impl.Node) { n.Commit = 2 }
	for voted := int64(-1); voted < 3; voted++ {
		mustBecome(t, impl.TimeoutNode(nodeWith(followerOf(0, 6, voted, 1, 4, 4), knows)), nodeWith(askerOf(0, 7, 1, 4, 4), knows),
			voteOf(0, 1, 7, 3, 4), voteOf(0, 2, 7, 3, 4))
	}
	// Who asks already asks once more, in a term of its own again; the votes of the last one are gone.
	asks := nodeWith(askerOf(2, 7, 1), func(n *impl.Node) { n.Votes = []int64{1, 2} })
	mustBecome(t, impl.TimeoutNode(asks), askerOf(2, 8, 1), voteOf(2, 0, 8, 1, 1), voteOf(2, 1, 8, 1, 1))
	// To each other one of as many as there may be.
	five := impl.Node{Id: 2, Peers: 5, Term: 100, Voted: 4, Log: plainLog()[:6]}
	mustBecome(t, impl.TimeoutNode(five), impl.Node{Id: 2, Peers: 5, Term: 101, Voted: 2, Log: five.Log, Role: impl.RoleAsk, Votes: []int64{2}},
		voteOf(2, 0, 101, 6, 5), voteOf(2, 1, 101, 6, 5), voteOf(2, 3, 101, 6, 5), voteOf(2, 4, 101, 6, 5))
	two := impl.Node{Id: 1, Peers: 2, Voted: -1}
	mustBecome(t, impl.TimeoutNode(two), impl.Node{Id: 1, Peers: 2, Term: 1, Voted: 1, Role: impl.RoleAsk, Votes: []int64{1}}, voteOf(1, 0, 1, 0, 0))
}

func TestTimeoutNodeOfANodeThatIsAlone(t *testing.T) {
	mustBecome(t, impl.TimeoutNode(impl.Node{Peers: 1, Voted: -1}), impl.Node{Peers: 1, Term: 1, Role: impl.RoleLead, Next: []int64{1}, Match: []int64{0}})
	// What it has of elder terms is not agreed by this; what it is asked then is, and all ahead of it.
	log := markedLog(1, 2, 2, 3)
	led := impl.TimeoutNode(impl.Node{Peers: 1, Term: 3, Voted: -1, Log: log, Commit: 1})
	mustBecome(t, led, impl.Node{Peers: 1, Term: 4, Log: log, Commit: 1, Role: impl.RoleLead, Next: []int64{4}, Match: []int64{3}})
	x := impl.Entry{Term: 4}
	mustBecome(t, impl.AskNode(led.Node, x), impl.Node{Peers: 1, Term: 4, Log: mixed(log, termsLog(4)), Commit: 4, Role: impl.RoleLead, Next: []int64{5}, Match: []int64{4}})
	mustBecome(t, impl.SpreadNode(led.Node), led.Node)
	mustNotBecome(t, impl.TimeoutNode(led.Node), impl.ErrState)
}

func TestTimeoutNodeInTheLastTerm(t *testing.T) {
	mustBecome(t, impl.TimeoutNode(followerOf(0, 99999, 1, 5)), askerOf(0, 100000, 5), voteOf(0, 1, 100000, 1, 5), voteOf(0, 2, 100000, 1, 5))
	mustNotBecome(t, impl.TimeoutNode(followerOf(0, 100000, 1, 5)), impl.ErrRange)
	mustNotBecome(t, impl.TimeoutNode(askerOf(0, 100000, 5)), impl.ErrRange)
	// That it leads is asked ahead of the term.
	mustNotBecome(t, impl.TimeoutNode(leaderOf(0, 100000, 5)), impl.ErrState)
	mustNotBecome(t, impl.TimeoutNode(leaderOf(2, 3)), impl.ErrState)
}

func TestSpreadNodeByHand(t *testing.T) {
	leads := leaderOf(0, 5, 1, 1, 2, 3, 3, 5, 5)
	log := leads.Log
	mustBecome(t, impl.SpreadNode(leads), leads, appendOf(0, 1, 5, 7, 5, 0, nil), appendOf(0, 2, 5, 7, 5, 0, nil))
	// At most four entries go, from Next on.
	for next := int64(1); next <= 8; next++ {
		n := nodeWith(leads, func(n *impl.Node) { n.Next[1], n.Commit = next, 3 })
		last := []int64{0, 0, 1, 1, 2, 3, 3, 5, 5}[next]
		mustBecome(t, impl.SpreadNode(n), n, appendOf(0, 1, 5, next-1, last, 3, log[next-1:min(next+3, 7)]), appendOf(0, 2, 5, 7, 5, 3, nil))
	}
	middle := nodeWith(leaderOf(1, 9, 4), func(n *impl.Node) { n.Next, n.Match = []int64{1, 1, 2}, []int64{0, 0, 1} })
	mustBecome(t, impl.SpreadNode(middle), middle, appendOf(1, 0, 9, 0, 0, 0, middle.Log), appendOf(1, 2, 9, 1, 4, 0, nil))
	// Where Match says that it is further than Next, Next counts.
	ahead := nodeWith(leads, func(n *impl.Node) { n.Next, n.Match = []int64{8, 2, 8}, []int64{7, 7, 7} })
	mustBecome(t, impl.SpreadNode(ahead), ahead, appendOf(0, 1, 5, 1, 1, 0, log[1:5]), appendOf(0, 2, 5, 7, 5, 0, nil))
	full := plainNodes()[4]
	mustBecome(t, impl.SpreadNode(full), full, appendOf(1, 0, 100000, 0, 0, 40, full.Log[:4]), appendOf(1, 2, 100000, 40, 100000, 40, nil))
}

func TestOnlyWhoLeadsSpreadsAndTakesEntries(t *testing.T) {
	for _, n := range []impl.Node{followerOf(0, 5, -1), followerOf(0, 5, 0, 1, 5), askerOf(0, 5), askerOf(1, 5, 5), {Peers: 1, Voted: -1}} {
		mustNotBecome(t, impl.SpreadNode(n), impl.ErrState)
		// Ahead of whatever is not right with the entry.
		for _, x := range []impl.Entry{{Term: 5}, {Term: 4}, {}, askedOf(5, 1, 0, plainCmds()[0]), askedOf(5, 1, 1, impl.Cmd{})} {
			mustNotBecome(t, impl.AskNode(n, x), impl.ErrState)
		}
	}
	full := nodeWith(followerOf(0, 7, 0, evenTerms(40, 7)...), func(n *impl.Node) {})
	mustNotBecome(t, impl.AskNode(full, impl.Entry{Term: 7}), impl.ErrState)
}

func TestAskNodeByHand(t *testing.T) {
	x := askedOf(5, 3, 9, plainCmds()[4])
	leads := leaderOf(1, 5, 1, 5)
	with := nodeWith(leads, func(n *impl.Node) {
		n.Log, n.Next, n.Match = append(n.Log, x), []int64{3, 4, 3}, []int64{0, 3, 0}
	})
	mustBecome(t, impl.AskNode(leads, x), with)
	empty := leaderOf(0, 5)
	mustBecome(t, impl.AskNode(empty, x), nodeWith(empty, func(n *impl.Node) {
		n.Log, n.Next, n.Match = []impl.Entry{x}, []int64{2, 1, 1}, []int64{1, 0, 0}
	}))
	// An entry of nothing is one, too; and one that was asked for already is taken again.
	mustBecome(t, impl.AskNode(with, impl.Entry{Term: 5}), nodeWith(with, func(n *impl.Node) {
		n.Log, n.Next, n.Match = append(n.Log, impl.Entry{Term: 5}), []int64{3, 5, 3}, []int64{0, 4, 0}
	}))
	mustBecome(t, impl.AskNode(with, x), nodeWith(with, func(n *impl.Node) {
		n.Log, n.Next, n.Match = append(n.Log, x), []int64{3, 5, 3}, []int64{0, 4, 0}
	}))
	// Whatever is noted of itself is right again.
	off := nodeWith(leads, func(n *impl.Node) { n.Next[1], n.Match[1] = 1, 0 })
	mustBecome(t, impl.AskNode(off, x), with)
	// What the others reach already is agreed, though nobody said so yet.
	late := nodeWith(leads, func(n *impl.Node) { n.Match = []int64{2, 0, 0} })
	mustBecome(t, impl.AskNode(late, x), nodeWith(with, func(n *impl.Node) { n.Match[0], n.Commit = 2, 2 }))
}

func TestAskNodeAsksForTheFirstCode(t *testing.T) {
	leads, full := leaderOf(0, 5, 1, 5), leaderOf(0, 7, evenTerms(40, 7)...)
	for _, n := range []impl.Node{leads, full} {
		// What the entry has itself, and only then its term.
		mustNotBecome(t, impl.AskNode(n, impl.Entry{}), impl.ErrRange)
		mustNotBecome(t, impl.AskNode(n, impl.Entry{Term: 100001}), impl.ErrRange)
		mustNotBecome(t, impl.AskNode(n, askedOf(4, 1000, 1, plainCmds()[0])), impl.ErrRange)
		mustNotBecome(t, impl.AskNode(n, askedOf(4, 1, 1, cmdOf(4, -1, 0, 0, 0, 0))), impl.ErrRange)
		mustNotBecome(t, impl.AskNode(n, askedOf(n.Term, 1, 0, plainCmds()[0])), impl.ErrForm)
		mustNotBecome(t, impl.AskNode(n, askedOf(n.Term, 1, 1, impl.Cmd{})), impl.ErrForm)
		// Of another term, and only then whether there is room.
		for _, term := range []int64{1, n.Term - 1, n.Term + 1, 100000} {
			mustNotBecome(t, impl.AskNode(n, impl.Entry{Term: term}), impl.ErrForm)
		}
	}
	mustNotBecome(t, impl.AskNode(full, impl.Entry{Term: 7}), impl.ErrMany)
	last := leaderOf(0, 7, evenTerms(39, 7)...)
	mustBecome(t, impl.AskNode(last, impl.Entry{Term: 7}), nodeWith(last, func(n *impl.Node) {
		n.Log, n.Next[0], n.Match[0] = append(n.Log, impl.Entry{Term: 7}), 41, 40
	}))
	great := leaderOf(0, 100000, 1, 5)
	mustBecome(t, impl.AskNode(great, impl.Entry{Term: 100000}), nodeWith(great, func(n *impl.Node) {
		n.Log, n.Next[0], n.Match[0] = append(n.Log, impl.Entry{Term: 100000}), 4, 3
	}))
}

func TestCrashNodeAndCommitOf(t *testing.T) {
	for _, n := range manyNodes(1000) {
		mustBecome(t, impl.CrashNode(n), impl.Node{Id: n.Id, Peers: n.Peers, Term: n.Term, Voted: n.Voted, Log: n.Log})
		if got := impl.CommitOf(n); got != (impl.IntResult{Value: n.Commit}) {
			t.Errorf("of %+v it is agreed up to %v", n, got)
		}
	}
}

// askEach calls all functions of the layer that are asked with a node alone, and with an entry.
func askEach(n impl.Node, x impl.Entry) []impl.NodeResult {
	return []impl.NodeResult{impl.TimeoutNode(n), impl.SpreadNode(n), impl.AskNode(n, x), impl.CrashNode(n)}
}

func TestNodesWithAFaultDoNothing(t *testing.T) {
	for _, stage := range nodeFaults() {
		for _, one := range stage {
			// Ahead of whatever they ask for themselves.
			n := nodeWith(leaderOf(0, 7, 1, 2, 2), one.do)
			for _, x := range []impl.Entry{{Term: 7}, {Term: 6}, {}} {
				for _, got := range askEach(n, x) {
					mustNotBecome(t, got, one.code)
				}
			}
			for _, m := range []impl.Mail{voteOf(1, 0, 9, 9, 9), {}, {Kind: 1}, appendOf(1, 0, 7, 0, 0, 0, nil)} {
				mustNotBecome(t, impl.HearMail(n, m), one.code)
			}
			if got := impl.CommitOf(n); got != (impl.IntResult{Code: one.code}) {
				t.Errorf("of %+v it is agreed up to %v", n, got)
			}
		}
	}
}

func TestWhatManyNodesDo(t *testing.T) {
	random := rand.New(rand.NewSource(83))
	codes := map[int64]int{}
	for _, n := range append(manyNodes(20000), manyBadNodes(4000)...) {
		x := someEntry(random, max(1, n.Term))
		if random.Intn(6) == 0 {
			spoilEntry(random, &x)
		}
		want := []impl.NodeResult{wantTimeout(n), wantSpread(n), wantAsk(n, x), wantCrash(n)}
		for i, got := range askEach(n, x) {
			mustAnswer(t, n, got, want[i])
			codes[got.Code]++
		}
	}
	mustMeet(t, codes, 50, impl.OK, impl.ErrForm, impl.ErrMany, impl.ErrRange, impl.ErrState)
}
