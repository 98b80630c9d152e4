package tests

import (
	"slices"
	"testing"

	"loop.example/g00222/impl"
)

// mustHold wants a list of a cluster to be one.
func mustHold[T comparable](t *testing.T, got, want []T) {
	t.Helper()
	if !slices.Equal(got, want) {
		t.Errorf("got %v, not %v", got, want)
	}
}

// mustWin wants the wins of an answer.
func mustWin(t *testing.T, got impl.ClusterResult, wins ...impl.Won) impl.Cluster {
	t.Helper()
	mustHold(t, stands(t, got).Wins, wins)
	return got.Cluster
}

// mustSeal wants the seals of an answer.
func mustSeal(t *testing.T, got impl.ClusterResult, seals ...impl.Seal) impl.Cluster {
	t.Helper()
	mustHold(t, stands(t, got).Seals, seals)
	return got.Cluster
}

// newAlone is a node that knows of nothing and needs nobody.
func newAlone() impl.Cluster {
	return clusterOf(impl.Node{Peers: 1, Voted: -1})
}

func TestANodeThatIsAloneLeadsEachTimeThatItAsks(t *testing.T) {
	c := mustWin(t, impl.TimeoutAt(newAlone(), 0), impl.Won{Term: 1})
	mustNotStand(t, impl.TimeoutAt(c, 0), impl.ErrState)
	mustWin(t, impl.SpreadAt(c, 0), impl.Won{Term: 1})
	c = mustWin(t, impl.AskAt(c, 0, 1, 1, plainCmds()[0]), impl.Won{Term: 1})
	c = mustWin(t, impl.CrashAt(c, 0), impl.Won{Term: 1})
	c = mustWin(t, impl.TimeoutAt(c, 0), impl.Won{Term: 1}, impl.Won{Term: 2})
	if len(c.Mails) != 0 {
		t.Errorf("%v is on its way", c.Mails)
	}
}

func TestWhoComesToLeadInLaterTerms(t *testing.T) {
	deliverAll := func(c impl.Cluster) impl.Cluster {
		for len(c.Mails) > 0 {
			c = stands(t, impl.DeliverMail(c, 0))
		}
		return c
	}
	// The first one leads, then another one, and then the first one again.
	c := deliverAll(stands(t, impl.TimeoutAt(newThree(), 0)))
	c = mustWin(t, impl.TimeoutAt(c, 2), impl.Won{Term: 1, Node: 0})
	c = mustWin(t, impl.ClusterResult{Cluster: deliverAll(c)}, impl.Won{Term: 1, Node: 0}, impl.Won{Term: 2, Node: 2})
	c = deliverAll(stands(t, impl.TimeoutAt(c, 0)))
	wins := []impl.Won{{Term: 1, Node: 0}, {Term: 2, Node: 2}, {Term: 3, Node: 0}}
	mustWin(t, impl.ClusterResult{Cluster: c}, wins...)
	// Who crashed and leads again does so in another term.
	c = deliverAll(stands(t, impl.TimeoutAt(stands(t, impl.CrashAt(c, 0)), 0)))
	mustWin(t, impl.ClusterResult{Cluster: c}, append(wins, impl.Won{Term: 4, Node: 0})...)
	// Whoever asks for votes and does not get them does not.
	c = stands(t, impl.TimeoutAt(stands(t, impl.CrashAt(c, 0)), 1))
	mustWin(t, impl.TimeoutAt(c, 0), append(wins, impl.Won{Term: 4, Node: 0})...)
}

func TestWhoLeadsAlreadyWinsNothing(t *testing.T) {
	// That there is no win of it is not asked.
	led := clusterWith(ledThree(5, 1, 5), func(c *impl.Cluster) {
		c.Wins, c.Mails = nil, []impl.Mail{takenOf(1, 0, 5, true, 2), grantOf(2, 0, 5, true), voteOf(1, 0, 6, 2, 5)}
	})
	mustWin(t, impl.SpreadAt(led, 0))
	mustWin(t, impl.AskAt(led, 0, 0, 0, impl.Cmd{}))
	for at := range int64(3) {
		mustWin(t, impl.DeliverMail(led, at))
	}
	mustWin(t, impl.CrashAt(led, 0))
	mustWin(t, impl.CrashAt(led, 1))
	// Others have nothing of it either.
	mustWin(t, impl.TimeoutAt(led, 1))
}

func TestThereIsRoomForFourHundredWins(t *testing.T) {
	asks := clusterWith(newThree(), func(c *impl.Cluster) {
		c.Nodes[1], c.Nodes[2] = askerOf(1, 9), leaderOf(2, 8)
		c.Mails = []impl.Mail{grantOf(0, 1, 9, true), grantOf(0, 1, 9, false), voteOf(1, 2, 9, 0, 0)}
	})
	for _, count := range []int{0, 1, 398, 399, 400} {
		alone := clusterWith(newAlone(), func(c *impl.Cluster) { c.Wins = manyWins(count) })
		three := clusterWith(asks, func(c *impl.Cluster) { c.Wins = manyWins(count) })
		if count < 400 {
			mustWin(t, impl.TimeoutAt(alone, 0), append(manyWins(count), impl.Won{Term: 1})...)
			mustWin(t, impl.DeliverMail(three, 0), append(manyWins(count), impl.Won{Term: 9, Node: 1})...)
		} else {
			mustNotStand(t, impl.TimeoutAt(alone, 0), impl.ErrMany)
			mustNotStand(t, impl.DeliverMail(three, 0), impl.ErrMany)
		}
		// Who wins nothing needs no room.
		mustWin(t, impl.DeliverMail(three, 1), manyWins(count)...)
		mustWin(t, impl.DeliverMail(three, 2), manyWins(count)...)
		mustWin(t, impl.TimeoutAt(three, 1), manyWins(count)...)
		mustWin(t, impl.SpreadAt(three, 2), manyWins(count)...)
		mustWin(t, impl.AskAt(three, 2, 0, 0, impl.Cmd{}), manyWins(count)...)
		mustWin(t, impl.CrashAt(three, 2), manyWins(count)...)
	}
	// What stands there already may be the same.
	again := clusterWith(asks, func(c *impl.Cluster) { c.Wins = []impl.Won{{Term: 9, Node: 1}} })
	mustWin(t, impl.DeliverMail(again, 0), impl.Won{Term: 9, Node: 1}, impl.Won{Term: 9, Node: 1})
}

func TestFourHundredTimesANodeComesToLead(t *testing.T) {
	c := newAlone()
	for term := range int64(400) {
		c = stands(t, impl.CrashAt(stands(t, impl.TimeoutAt(c, 0)), 0))
		if len(c.Wins) != int(term)+1 || c.Wins[term] != (impl.Won{Term: term + 1, Node: 0}) {
			t.Fatalf("the wins are %v", c.Wins)
		}
	}
	mustNotStand(t, impl.TimeoutAt(c, 0), impl.ErrMany)
}

func TestWhatANodeThatIsAloneIsAskedIsSealed(t *testing.T) {
	// Entries of elder terms are sealed with the one of the own term that stands behind them.
	log := markedLog(2, 2, 2, 3)
	c := clusterOf(impl.Node{Peers: 1, Term: 3, Voted: -1, Log: log})
	c = mustSeal(t, impl.TimeoutAt(c, 0))
	c = mustSeal(t, impl.AskAt(c, 0, 0, 0, impl.Cmd{}), sealsOf(4, append(log, impl.Entry{Term: 4})...)...)
	c = mustSeal(t, impl.CrashAt(c, 0), c.Seals...)
	c = mustSeal(t, impl.TimeoutAt(c, 0), c.Seals...)
	mustSeal(t, impl.AskAt(c, 0, 7, 1, plainCmds()[2]), append(c.Seals, impl.Seal{Term: 5, Entry: askedOf(5, 7, 1, plainCmds()[2])})...)
	// As many as there may be.
	all := stands(t, impl.TimeoutAt(newAlone(), 0))
	for seq := range int64(40) {
		all = mustSeal(t, impl.AskAt(all, 0, 5, seq+1, plainCmds()[seq%9]), append(all.Seals, impl.Seal{Term: 1, Entry: askedOf(1, 5, seq+1, plainCmds()[seq%9])})...)
	}
	mustNotStand(t, impl.AskAt(all, 0, 5, 41, plainCmds()[0]), impl.ErrMany)
}

func TestWhatAQuorumHasIsSealed(t *testing.T) {
	c := stands(t, impl.AskAt(ledThree(4, 1, 3), 0, 0, 0, impl.Cmd{}))
	log := c.Nodes[0].Log
	c.Mails = []impl.Mail{takenOf(1, 0, 4, true, 2), takenOf(2, 0, 4, true, 3), takenOf(1, 0, 4, true, 3), appendOf(0, 2, 4, 2, 3, 2, log[2:])}
	// That others have those of elder terms is not enough.
	mustSeal(t, impl.DeliverMail(c, 0))
	for _, at := range []int64{1, 2} {
		mustSeal(t, impl.DeliverMail(c, at), sealsOf(4, log...)...)
	}
	// Who follows and hears of it first seals it, too, and as much of it as it heard of.
	c = mustSeal(t, impl.DeliverMail(c, 3), sealsOf(4, log[:2]...)...)
	// Who leads knows of more later.
	mustSeal(t, impl.DeliverMail(c, 1), sealsOf(4, log...)...)
}

func TestASealIsOfTheTermOfWhoKnewItFirst(t *testing.T) {
	log := markedLog(1, 1, 3, 4)
	knows := func(n *impl.Node) { n.Commit = 2 }
	start := clusterOf(leaderOf(0, 4, 1, 3, 4), nodeWith(followerOf(1, 6, -1, 1, 3, 4), knows), followerOf(2, 4, -1, 1, 3, 4))
	start.Mails = []impl.Mail{appendOf(0, 2, 4, 3, 4, 3, nil), appendOf(2, 1, 9, 0, 0, 0, nil), grantOf(2, 1, 1, true), appendOf(0, 1, 4, 0, 0, 0, nil), appendOf(0, 1, 8, 3, 4, 3, nil)}
	// Nodes may know what has no seal yet: it gets one when they do something, with the term that they are in then.
	mustSeal(t, impl.TimeoutAt(start, 1), sealsOf(7, log[:2]...)...)
	mustSeal(t, impl.DeliverMail(start, 1), sealsOf(9, log[:2]...)...)
	mustSeal(t, impl.DeliverMail(start, 2), sealsOf(6, log[:2]...)...)
	mustSeal(t, impl.DeliverMail(start, 3), sealsOf(6, log[:2]...)...)
	mustSeal(t, impl.DeliverMail(start, 4), sealsOf(8, log...)...)
	mustSeal(t, impl.DeliverMail(start, 0), sealsOf(4, log...)...)
	// What another one knows is not asked, nor what it knew that crashed.
	for _, got := range []impl.ClusterResult{impl.SpreadAt(start, 0), impl.CrashAt(start, 0), impl.CrashAt(start, 1), impl.TimeoutAt(start, 2), impl.CopyMail(start, 0), impl.DropMail(start, 0)} {
		mustSeal(t, got)
	}
	// The rest gets its seal by who knows more, in its own term; what is sealed stays as it is, though others have something else there.
	one := clusterWith(start, func(c *impl.Cluster) { c.Seals = sealsOf(99, impl.Entry{Term: 77}) })
	mustSeal(t, impl.DeliverMail(one, 2), append(sealsOf(99, impl.Entry{Term: 77}), sealsOf(6, log[1])...)...)
	for count := 2; count <= 40; count += 19 {
		many := clusterWith(start, func(c *impl.Cluster) { c.Seals = sealsOf(99, termsLog(evenTerms(count, 1)...)...) })
		mustSeal(t, impl.TimeoutAt(many, 1), many.Seals...)
	}
}

func TestAllThatIsAskedIsSealedWhereAllMailsCome(t *testing.T) {
	for peers := int64(1); peers <= 5; peers++ {
		c := stands(t, impl.TimeoutAt(stands(t, impl.NewCluster(peers)), peers-1))
		settle := func() {
			for len(c.Mails) > 0 {
				c = stands(t, impl.DeliverMail(c, 0))
			}
		}
		settle()
		var log []impl.Entry
		for seq := int64(1); seq <= 40; seq++ {
			log = append(log, askedOf(1, 3, seq, plainCmds()[seq%9]))
			c = stands(t, impl.AskAt(c, peers-1, 3, seq, plainCmds()[seq%9]))
			c = stands(t, impl.SpreadAt(c, peers-1))
			settle()
		}
		c = stands(t, impl.SpreadAt(c, peers-1))
		settle()
		mustSeal(t, impl.ClusterResult{Cluster: c}, sealsOf(1, log...)...)
		mustWin(t, impl.ClusterResult{Cluster: c}, impl.Won{Term: 1, Node: peers - 1})
		for _, n := range c.Nodes {
			if n.Commit != 40 || !slices.Equal(n.Log, log) {
				t.Errorf("%s has not all that was asked", short(n))
			}
		}
	}
}
