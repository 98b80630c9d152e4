package tests

import (
	"math/rand"
	"slices"
	"testing"

	"loop.example/g00222/impl"
)

func TestHearVoteByHand(t *testing.T) {
	free := followerOf(0, 5, -1, 1, 3, 3)
	for _, one := range []struct {
		index, last int64
		grants      bool
	}{
		{3, 3, true}, {4, 3, true}, {40, 3, true}, {1, 4, true}, {1, 5, true}, {40, 5, true},
		{2, 3, false}, {1, 3, false}, {3, 2, false}, {40, 2, false}, {40, 0, false}, {0, 0, false},
	} {
		// A log that is longer, shorter or of another term: of the two last entries the one of the greater term is ahead, and of one term the longer log.
		for voted := int64(-1); voted < 3; voted++ {
			n := nodeWith(free, func(n *impl.Node) { n.Voted, n.Commit = voted, 1 })
			grants := one.grants && (voted == -1 || voted == 2)
			after := n
			if grants {
				after.Voted = 2
			}
			mustBecome(t, impl.HearMail(n, voteOf(2, 0, 5, one.index, one.last)), after, grantOf(0, 2, 5, grants))
			// In a later term nobody has its vote yet.
			after = nodeWith(n, func(n *impl.Node) { n.Term, n.Voted = 6, -1 })
			if one.grants {
				after.Voted = 2
			}
			mustBecome(t, impl.HearMail(n, voteOf(2, 0, 6, one.index, one.last)), after, grantOf(0, 2, 6, one.grants))
			// In an elder one nobody gets it, who was voted for in this one neither.
			mustBecome(t, impl.HearMail(n, voteOf(2, 0, 4, one.index, min(one.last, 4))), n, grantOf(0, 2, 5, false))
		}
	}
	fresh := followerOf(1, 0, -1)
	mustBecome(t, impl.HearMail(fresh, voteOf(0, 1, 1, 0, 0)), followerOf(1, 1, 0), grantOf(1, 0, 1, true))
	mustBecome(t, impl.HearMail(fresh, voteOf(0, 1, 100000, 0, 0)), followerOf(1, 100000, 0), grantOf(1, 0, 100000, true))
	mustBecome(t, impl.HearMail(plainNodes()[4], voteOf(0, 1, 100000, 40, 100000)), plainNodes()[4], grantOf(1, 0, 100000, false))
}

func TestHearVoteOfWhoAsksOrLeadsItself(t *testing.T) {
	for _, n := range []impl.Node{askerOf(0, 5, 1), leaderOf(0, 5, 1)} {
		mustBecome(t, impl.HearMail(n, voteOf(1, 0, 5, 40, 5)), n, grantOf(0, 1, 5, false))
		mustBecome(t, impl.HearMail(n, voteOf(1, 0, 4, 40, 4)), n, grantOf(0, 1, 5, false))
		mustBecome(t, impl.HearMail(n, voteOf(1, 0, 1, 0, 0)), n, grantOf(0, 1, 5, false))
		mustBecome(t, impl.HearMail(n, voteOf(1, 0, 6, 1, 1)), followerOf(0, 6, 1, 1), grantOf(0, 1, 6, true))
		// It goes back also where it does not grant.
		mustBecome(t, impl.HearMail(n, voteOf(1, 0, 6, 0, 0)), followerOf(0, 6, -1, 1), grantOf(0, 1, 6, false))
	}
}

func TestAVoteThatWasGivenIsGivenAgainToTheSameAlone(t *testing.T) {
	n := followerOf(0, 3, -1)
	first := impl.HearMail(n, voteOf(1, 0, 4, 0, 0))
	mustBecome(t, first, followerOf(0, 4, 1), grantOf(0, 1, 4, true))
	mustBecome(t, impl.HearMail(first.Node, voteOf(1, 0, 4, 0, 0)), first.Node, grantOf(0, 1, 4, true))
	mustBecome(t, impl.HearMail(first.Node, voteOf(2, 0, 4, 9, 4)), first.Node, grantOf(0, 2, 4, false))
	mustBecome(t, impl.HearMail(impl.CrashNode(first.Node).Node, voteOf(2, 0, 4, 9, 4)), first.Node, grantOf(0, 2, 4, false))
	mustBecome(t, impl.HearMail(first.Node, voteOf(2, 0, 5, 9, 4)), followerOf(0, 5, 2), grantOf(0, 2, 5, true))
	// Who voted for itself, and went back to following since, has voted.
	mustBecome(t, impl.HearMail(followerOf(0, 4, 0), voteOf(1, 0, 4, 9, 4)), followerOf(0, 4, 0), grantOf(0, 1, 4, false))
	// Who has its vote, but came to lack something, gets no other answer than anybody.
	longer := followerOf(0, 4, 1, 4)
	mustBecome(t, impl.HearMail(longer, voteOf(1, 0, 4, 0, 0)), longer, grantOf(0, 1, 4, false))
}

func TestHearGrantByHand(t *testing.T) {
	asks := askerOf(0, 5, 1, 4)
	leads := leaderOf(0, 5, 1, 4)
	mustBecome(t, impl.HearMail(asks, grantOf(2, 0, 5, true)), leads)
	mustBecome(t, impl.HearMail(asks, grantOf(2, 0, 5, false)), asks)
	mustBecome(t, impl.HearMail(asks, grantOf(2, 0, 4, true)), asks)
	mustBecome(t, impl.HearMail(asks, grantOf(2, 0, 4, false)), asks)
	// Of a later term: it is no vote for what was asked, but the term is heard of.
	for _, ok := range []bool{true, false} {
		mustBecome(t, impl.HearMail(asks, grantOf(2, 0, 6, ok)), followerOf(0, 6, -1, 1, 4))
		mustBecome(t, impl.HearMail(leads, grantOf(2, 0, 6, ok)), followerOf(0, 6, -1, 1, 4))
		mustBecome(t, impl.HearMail(leads, grantOf(2, 0, 5, ok)), leads)
		mustBecome(t, impl.HearMail(leads, grantOf(2, 0, 4, ok)), leads)
		mustBecome(t, impl.HearMail(followerOf(0, 5, 0, 1), grantOf(2, 0, 5, ok)), followerOf(0, 5, 0, 1))
	}
}

func TestHearGrantOfEachNumberOfPeers(t *testing.T) {
	for peers := int64(2); peers <= 5; peers++ {
		for id := range peers {
			n := impl.TimeoutNode(impl.Node{Id: id, Peers: peers, Term: 2, Voted: -1, Log: markedLog(1, 2), Commit: 1}).Node
			want, has := n, int64(1)
			for from := peers - 1; from >= 0; from-- {
				if from == id {
					continue
				}
				got := impl.HearMail(n, grantOf(from, id, 3, true))
				has++
				want = nodeWith(want, func(n *impl.Node) {
					n.Votes = append(n.Votes, from)
					slices.Sort(n.Votes)
				})
				if has > peers-has {
					// More than half: it leads, and the others' votes are no news.
					want = impl.Node{Id: id, Peers: peers, Term: 3, Voted: id, Log: n.Log, Commit: 1, Role: impl.RoleLead, Next: evenTerms(int(peers), 2), Match: evenTerms(int(peers), 0)}
					want.Match[id] = 1
					mustBecome(t, got, want)
					break
				}
				mustBecome(t, got, want)
				// A vote that comes twice is one.
				mustBecome(t, impl.HearMail(got.Node, grantOf(from, id, 3, true)), want)
				n = got.Node
			}
		}
	}
	// Not its own vote: what others gave is counted alone.
	five := impl.Node{Id: 4, Peers: 5, Term: 3, Voted: 4, Role: impl.RoleAsk, Votes: []int64{1}}
	mustBecome(t, impl.HearMail(five, grantOf(0, 4, 3, true)), nodeWith(five, func(n *impl.Node) { n.Votes = []int64{0, 1} }))
	// And who has enough already leads by one that it has.
	enough := nodeWith(five, func(n *impl.Node) { n.Votes = []int64{0, 1, 2} })
	mustBecome(t, impl.HearMail(enough, grantOf(1, 4, 3, true)), impl.Node{Id: 4, Peers: 5, Term: 3, Voted: 4, Role: impl.RoleLead, Next: evenTerms(5, 1), Match: evenTerms(5, 0)})
}

func TestHearAppendByHand(t *testing.T) {
	n := nodeWith(followerOf(0, 5, 1, 1, 1, 3, 3), func(n *impl.Node) { n.Commit = 2 })
	log := n.Log
	as := func(commit int64, log ...[]impl.Entry) impl.Node {
		return nodeWith(n, func(n *impl.Node) { n.Log, n.Commit = mixed(log...), commit })
	}
	// Nothing but what is agreed: no further than what was told stands for sure.
	mustBecome(t, impl.HearMail(n, appendOf(1, 0, 5, 4, 3, 3, nil)), as(3, log), takenOf(0, 1, 5, true, 4))
	mustBecome(t, impl.HearMail(n, appendOf(1, 0, 5, 3, 3, 40, nil)), as(3, log), takenOf(0, 1, 5, true, 3))
	mustBecome(t, impl.HearMail(n, appendOf(1, 0, 5, 4, 3, 1, nil)), as(2, log), takenOf(0, 1, 5, true, 4))
	mustBecome(t, impl.HearMail(n, appendOf(1, 0, 5, 0, 0, 40, nil)), as(2, log), takenOf(0, 1, 5, true, 0))
	// Behind the last one, and behind one further ahead.
	more := markedLog(2, 4, 5)
	mustBecome(t, impl.HearMail(n, appendOf(1, 0, 5, 4, 3, 5, more)), as(5, log, more), takenOf(0, 1, 5, true, 6))
	mustBecome(t, impl.HearMail(n, appendOf(1, 0, 5, 4, 3, 40, more)), as(6, log, more), takenOf(0, 1, 5, true, 6))
	mustBecome(t, impl.HearMail(n, appendOf(1, 0, 5, 2, 1, 40, more)), as(4, log[:2], more), takenOf(0, 1, 5, true, 4))
	mustBecome(t, impl.HearMail(n, appendOf(1, 0, 5, 3, 3, 0, more[1:])), as(2, log[:3], more[1:]), takenOf(0, 1, 5, true, 4))
	// What is there already stays, and so does what stands behind it: it is not known to be agreed.
	mustBecome(t, impl.HearMail(n, appendOf(1, 0, 5, 1, 1, 40, log[1:3])), as(3, log), takenOf(0, 1, 5, true, 3))
	mustBecome(t, impl.HearMail(n, appendOf(1, 0, 5, 0, 0, 40, log)), as(4, log), takenOf(0, 1, 5, true, 4))
	mustBecome(t, impl.HearMail(followerOf(0, 5, -1), appendOf(2, 0, 5, 0, 0, 0, log)), impl.Node{Peers: 3, Term: 5, Voted: -1, Log: log}, takenOf(0, 2, 5, true, 4))
}

func TestHearAppendWhereTheLogDoesNotFit(t *testing.T) {
	n := nodeWith(followerOf(0, 5, 1, 1, 1, 3, 3), func(n *impl.Node) { n.Commit = 2 })
	for _, one := range [][3]int64{
		// Index and Last, and what it answers: no more than what it has, and one less than what was tried.
		{5, 3, 4}, {6, 5, 4}, {40, 3, 4}, {5, 0, 4}, {4, 4, 3}, {4, 1, 3}, {4, 0, 3}, {3, 1, 2}, {3, 5, 2}, {2, 3, 1}, {1, 0, 0}, {1, 5, 0},
	} {
		for _, entries := range [][]impl.Entry{nil, markedLog(2, 5), termsLog(evenTerms(40, 5)...)} {
			mustBecome(t, impl.HearMail(n, appendOf(1, 0, 5, one[0], one[1], 40, entries)), n, takenOf(0, 1, 5, false, one[2]))
			asks := nodeWith(n, func(n *impl.Node) { n.Voted, n.Role, n.Votes = 0, impl.RoleAsk, []int64{0} })
			mustBecome(t, impl.HearMail(asks, appendOf(1, 0, 5, one[0], one[1], 40, entries)), nodeWith(n, func(n *impl.Node) { n.Voted = 0 }), takenOf(0, 1, 5, false, one[2]))
		}
	}
	fresh := followerOf(2, 1, -1)
	mustBecome(t, impl.HearMail(fresh, appendOf(0, 2, 1, 1, 1, 1, nil)), fresh, takenOf(2, 0, 1, false, 0))
	mustBecome(t, impl.HearMail(fresh, appendOf(0, 2, 1, 40, 0, 1, nil)), fresh, takenOf(2, 0, 1, false, 0))
}

func TestHearAppendOfEachTerm(t *testing.T) {
	log := markedLog(1, 1, 4)
	for _, n := range []impl.Node{followerOf(0, 5, -1, 1, 4), followerOf(0, 5, 2, 1, 4), askerOf(0, 5, 1, 4), leaderOf(0, 5, 1, 4)} {
		n.Commit = 1
		// Of an elder term: nothing turns, whatever it tells, and who sent it hears of the later one.
		for term := int64(1); term < 5; term++ {
			for _, m := range []impl.Mail{appendOf(1, 0, term, 2, min(term, 4), 2, nil), appendOf(1, 0, term, 0, 0, 40, markedLog(3, term, term)), appendOf(1, 0, term, 40, 1, 0, nil)} {
				mustBecome(t, impl.HearMail(n, m), n, takenOf(0, 1, 5, false, 0))
			}
		}
		follows := impl.Node{Peers: 3, Term: 5, Voted: n.Voted, Log: log, Commit: 2}
		if n.Role == impl.RoleLead {
			// Two leaders of one term: there is no such thing.
			for _, m := range []impl.Mail{appendOf(1, 0, 5, 2, 4, 2, nil), appendOf(1, 0, 5, 9, 4, 2, nil), appendOf(1, 0, 5, 0, 0, 2, markedLog(1, 3)), appendOf(1, 0, 5, 2, 4, 2, termsLog(evenTerms(40, 5)...))} {
				mustNotBecome(t, impl.HearMail(n, m), impl.ErrState)
			}
		} else {
			mustBecome(t, impl.HearMail(n, appendOf(1, 0, 5, 2, 4, 2, nil)), follows, takenOf(0, 1, 5, true, 2))
		}
		// Of a later one: who leads goes back, and has voted for nobody.
		for _, term := range []int64{6, 100000} {
			follows.Term, follows.Voted = term, -1
			mustBecome(t, impl.HearMail(n, appendOf(1, 0, term, 2, 4, 2, nil)), follows, takenOf(0, 1, term, true, 2))
		}
	}
}

func TestHearAppendKeepsWhatIsAgreed(t *testing.T) {
	n := nodeWith(followerOf(0, 5, 1, 1, 2, 2, 4), func(n *impl.Node) { n.Commit = 2 })
	mustNotBecome(t, impl.HearMail(n, appendOf(1, 0, 5, 1, 1, 0, termsLog(3))), impl.ErrState)
	mustNotBecome(t, impl.HearMail(n, appendOf(1, 0, 5, 0, 0, 0, termsLog(2))), impl.ErrState)
	mustNotBecome(t, impl.HearMail(n, appendOf(1, 0, 5, 0, 0, 0, termsLog(1, 3))), impl.ErrState)
	mustNotBecome(t, impl.HearMail(n, appendOf(2, 0, 9, 0, 0, 40, termsLog(1, 1, 2, 4))), impl.ErrState)
	// Behind what is agreed all may turn.
	mustBecome(t, impl.HearMail(n, appendOf(1, 0, 5, 1, 1, 0, termsLog(2, 3))), nodeWith(n, func(n *impl.Node) { n.Log = mixed(n.Log[:2], termsLog(3)) }), takenOf(0, 1, 5, true, 3))
	mustBecome(t, impl.HearMail(n, appendOf(1, 0, 5, 2, 2, 0, termsLog(3))), nodeWith(n, func(n *impl.Node) { n.Log = mixed(n.Log[:2], termsLog(3)) }), takenOf(0, 1, 5, true, 3))
	// What has the same term is the same, and stays as it is.
	mustBecome(t, impl.HearMail(n, appendOf(1, 0, 5, 0, 0, 0, termsLog(1, 2))), n, takenOf(0, 1, 5, true, 2))
}

func TestHearAppendOfMoreThanThereIsRoomFor(t *testing.T) {
	full := followerOf(0, 7, -1, evenTerms(40, 3)...)
	mustNotBecome(t, impl.HearMail(full, appendOf(1, 0, 7, 40, 3, 0, termsLog(3))), impl.ErrMany)
	mustNotBecome(t, impl.HearMail(full, appendOf(1, 0, 7, 39, 3, 0, termsLog(4, 4))), impl.ErrMany)
	// Ahead of what is agreed and would turn.
	agreed := nodeWith(full, func(n *impl.Node) { n.Commit = 40 })
	mustNotBecome(t, impl.HearMail(agreed, appendOf(1, 0, 7, 39, 3, 0, termsLog(4, 4))), impl.ErrMany)
	mustNotBecome(t, impl.HearMail(agreed, appendOf(1, 0, 7, 39, 3, 0, termsLog(4))), impl.ErrState)
	mustNotBecome(t, impl.HearMail(agreed, appendOf(1, 0, 8, 39, 3, 0, termsLog(4, 4))), impl.ErrMany)
	mustBecome(t, impl.HearMail(full, appendOf(1, 0, 7, 39, 3, 40, termsLog(4))),
		nodeWith(full, func(n *impl.Node) { n.Log, n.Commit = mixed(n.Log[:39], termsLog(4)), 40 }), takenOf(0, 1, 7, true, 40))
	mustBecome(t, impl.HearMail(full, appendOf(1, 0, 7, 40, 3, 40, nil)), agreed, takenOf(0, 1, 7, true, 40))
	mustBecome(t, impl.HearMail(followerOf(0, 7, -1), appendOf(1, 0, 7, 0, 0, 40, full.Log)), agreed, takenOf(0, 1, 7, true, 40))
}

func TestHearTakenByHand(t *testing.T) {
	leads := nodeWith(leaderOf(0, 5, 1, 1, 3, 3, 5), func(n *impl.Node) { n.Next[1], n.Match[1] = 4, 2 })
	as := func(next, match int64) impl.Node {
		return nodeWith(leads, func(n *impl.Node) { n.Next[1], n.Match[1] = next, match })
	}
	for index := int64(0); index <= 40; index++ {
		want := as(3, 2)
		if index > 2 && index <= 5 {
			want = as(index+1, index)
		}
		if index == 5 {
			want.Commit = 5
		}
		mustBecome(t, impl.HearMail(leads, takenOf(1, 0, 5, true, index)), want)
		// Where it was not taken: one step back, or to where the other one is, but not ahead of what it has for sure.
		mustBecome(t, impl.HearMail(leads, takenOf(1, 0, 5, false, index)), as(3, 2))
		far := leaderOf(0, 5, 1, 1, 3, 3, 5)
		mustBecome(t, impl.HearMail(far, takenOf(2, 0, 5, false, index)), nodeWith(far, func(n *impl.Node) { n.Next[2] = min(index+1, 5) }))
	}
	least := nodeWith(leads, func(n *impl.Node) { n.Next[1], n.Match[1] = 1, 0 })
	mustBecome(t, impl.HearMail(least, takenOf(1, 0, 5, false, 0)), least)
	mustBecome(t, impl.HearMail(least, takenOf(1, 0, 5, false, 40)), least)
	// Where what is noted says that it has more than what is sent to it.
	odd := nodeWith(leads, func(n *impl.Node) { n.Next[1], n.Match[1] = 2, 4 })
	mustBecome(t, impl.HearMail(odd, takenOf(1, 0, 5, false, 0)), as(5, 4))
	mustBecome(t, impl.HearMail(odd, takenOf(1, 0, 5, true, 0)), as(5, 4))
}

func TestHearTakenOfOtherTermsAndRoles(t *testing.T) {
	for _, n := range []impl.Node{followerOf(0, 5, -1, 5), followerOf(0, 5, 1, 5), askerOf(0, 5, 5), leaderOf(0, 5, 5)} {
		for _, ok := range []bool{true, false} {
			for term := int64(1); term < 5; term++ {
				mustBecome(t, impl.HearMail(n, takenOf(1, 0, term, ok, 1)), n)
			}
			if n.Role != impl.RoleLead {
				mustBecome(t, impl.HearMail(n, takenOf(1, 0, 5, ok, 1)), n)
			}
			mustBecome(t, impl.HearMail(n, takenOf(1, 0, 6, ok, 1)), followerOf(0, 6, -1, 5))
			mustBecome(t, impl.HearMail(n, takenOf(1, 0, 100000, ok, 0)), followerOf(0, 100000, -1, 5))
		}
	}
}

func TestWhatIsAgreedIsOfTheOwnTermAlone(t *testing.T) {
	leads := leaderOf(0, 5, 1, 3, 5, 5)
	// The second entry is with two of three, but of an elder term: it is agreed only with one of term 5 behind it.
	second := impl.HearMail(leads, takenOf(1, 0, 5, true, 2))
	mustBecome(t, second, nodeWith(leads, func(n *impl.Node) { n.Next[1], n.Match[1] = 3, 2 }))
	all := impl.HearMail(second.Node, takenOf(2, 0, 5, true, 2))
	mustBecome(t, all, nodeWith(leads, func(n *impl.Node) { n.Next, n.Match = []int64{5, 3, 3}, []int64{4, 2, 2} }))
	third := impl.HearMail(all.Node, takenOf(2, 0, 5, true, 3))
	mustBecome(t, third, nodeWith(leads, func(n *impl.Node) { n.Next, n.Match, n.Commit = []int64{5, 3, 4}, []int64{4, 2, 3}, 3 }))
	mustBecome(t, impl.HearMail(third.Node, takenOf(1, 0, 5, true, 4)), nodeWith(leads, func(n *impl.Node) { n.Next, n.Match, n.Commit = []int64{5, 5, 4}, []int64{4, 4, 3}, 4 }))
	// Nor does what all have come to be agreed by who leads in a later term, as long as it has nothing of its own.
	later := leaderOf(0, 6, 1, 3, 5, 5)
	for _, from := range []int64{1, 2} {
		later = impl.HearMail(later, takenOf(from, 0, 6, true, 4)).Node
	}
	mustBecome(t, impl.NodeResult{Node: later}, nodeWith(leaderOf(0, 6, 1, 3, 5, 5), func(n *impl.Node) { n.Match = []int64{4, 4, 4} }))
	asked := impl.AskNode(later, impl.Entry{Term: 6}).Node
	if asked.Commit != 0 {
		t.Errorf("%+v is agreed by one of three", asked)
	}
	if got := impl.HearMail(asked, takenOf(2, 0, 6, true, 5)).Node; got.Commit != 5 {
		t.Errorf("%+v has not agreed on what two of three have", got)
	}
}

func TestWhatIsAgreedIsWithMoreThanHalf(t *testing.T) {
	for _, one := range []struct {
		match  []int64
		commit int64
	}{
		{[]int64{3}, 3}, {[]int64{3, 0}, 0}, {[]int64{3, 2}, 2}, {[]int64{3, 3}, 3}, {[]int64{3, 1, 0}, 1}, {[]int64{3, 2, 3}, 3}, {[]int64{3, 0, 0, 3}, 0},
		{[]int64{3, 2, 1, 0}, 1}, {[]int64{3, 3, 1, 2}, 2}, {[]int64{3, 0, 0, 3, 0}, 0}, {[]int64{3, 1, 2, 0, 0}, 1}, {[]int64{3, 3, 2, 2, 1}, 2}, {[]int64{3, 3, 0, 3, 0}, 3},
	} {
		peers := int64(len(one.match))
		// The last one of the list is heard of only now.
		n := impl.Node{Peers: peers, Term: 2, Log: markedLog(1, 2, 2, 2), Role: impl.RoleLead, Next: evenTerms(int(peers), 4), Match: slices.Clone(one.match)}
		if peers == 1 {
			n.Log, n.Match = n.Log[:2], []int64{2}
			n.Next = []int64{3}
			if got := impl.AskNode(n, impl.Entry{Term: 2}).Node; got.Commit != one.commit {
				t.Errorf("%v agree on %d, not %d", one.match, got.Commit, one.commit)
			}
			continue
		}
		n.Match[peers-1] = 0
		if got := impl.HearMail(n, takenOf(peers-1, 0, 2, true, one.match[peers-1])).Node; got.Commit != one.commit {
			t.Errorf("%v agree on %d, not %d", one.match, got.Commit, one.commit)
		}
		// What is known to be agreed already stays so.
		n.Commit = 3
		if got := impl.HearMail(n, takenOf(peers-1, 0, 2, true, one.match[peers-1])).Node; got.Commit != 3 {
			t.Errorf("%v agree on %d, though it was 3", one.match, got.Commit)
		}
	}
}

func TestHearMailOfWhatHasAFault(t *testing.T) {
	n := followerOf(1, 5, 1, 1, 2, 5)
	for _, stage := range mailFaults() {
		for _, one := range stage {
			m := impl.Mail{Kind: impl.MailAppend, From: 0, To: 1, Term: 7}
			one.do(&m)
			mustNotBecome(t, impl.HearMail(n, m), one.code)
		}
	}
}

// smallNodes are the nodes of three with the Id 0 that have few entries of few terms.
func smallNodes() []impl.Node {
	var nodes []impl.Node
	add := func(n impl.Node) {
		if wantNodeFault(n) == impl.OK {
			nodes = append(nodes, n)
		}
	}
	for _, terms := range [][]int64{{}, {1}, {2}, {1, 1}, {1, 2}, {2, 2}} {
		count := int64(len(terms))
		for term := range int64(4) {
			for commit := range count + 1 {
				n := impl.Node{Peers: 3, Term: term, Log: markedLog(1, terms...), Commit: commit}
				for voted := int64(-1); voted < 3; voted++ {
					add(nodeWith(n, func(n *impl.Node) { n.Voted = voted }))
				}
				for _, votes := range [][]int64{nil, {0}, {1}, {0, 2}} {
					add(nodeWith(n, func(n *impl.Node) { n.Role, n.Votes = impl.RoleAsk, votes }))
				}
				for match := range count + 1 {
					for next := int64(1); next <= count+1; next++ {
						add(nodeWith(n, func(n *impl.Node) {
							n.Role, n.Next, n.Match = impl.RoleLead, []int64{count + 1, next, 1}, []int64{count, match, count - match}
						}))
					}
				}
			}
		}
	}
	return nodes
}

// smallMails are the mails to node 0 of three that tell of few entries and few terms.
func smallMails() []impl.Mail {
	var mails []impl.Mail
	to := impl.Node{Peers: 3, Voted: -1}
	for _, entries := range [][]impl.Entry{nil, termsLog(1), termsLog(2), termsLog(1, 2), termsLog(2, 2), termsLog(3, 3, 3)} {
		for term := int64(1); term < 4; term++ {
			for index := range int64(4) {
				for last := range term + 1 {
					for commit := range int64(4) {
						for kind := range int64(8) {
							m := impl.Mail{Kind: 1 + kind/2, From: 1, Term: term, Index: index, Last: last, Commit: commit, Ok: kind%2 == 1, Entries: entries}
							if wantMailFault(to, m) == impl.OK {
								mails = append(mails, m)
							}
						}
					}
				}
			}
		}
	}
	return mails
}

func TestHearMailOfAllSmallMails(t *testing.T) {
	mails, codes := smallMails(), map[int64]int{}
	for _, n := range smallNodes() {
		for _, m := range mails {
			got := impl.HearMail(n, m)
			mustAnswer(t, []any{n, m}, got, wantHear(n, m))
			codes[got.Code]++
		}
	}
	mustMeet(t, codes, 1000, impl.OK, impl.ErrState)
}

func TestHearMailOfManyMails(t *testing.T) {
	random := rand.New(rand.NewSource(84))
	nodes := append(manyNodes(4000), manyBadNodes(200)...)
	codes := map[int64]int{}
	for i := range 100000 {
		n := nodes[random.Intn(len(nodes))]
		m := someMailToAny(random, n)
		if i%10 == 0 {
			spoilMail(random, &m)
		}
		got := impl.HearMail(n, m)
		mustAnswer(t, []any{n, m}, got, wantHear(n, m))
		codes[got.Code]++
	}
	mustMeet(t, codes, 100, impl.OK, impl.ErrForm, impl.ErrMany, impl.ErrRange, impl.ErrText, impl.ErrState)
}
