package tests

import (
	"slices"
	"testing"

	"loop.example/g00222/impl"
)

// asksForVotes are three nodes of which the first one asks for votes, and nothing came yet.
func asksForVotes() impl.Cluster {
	return clusterWith(newThree(), func(c *impl.Cluster) {
		c.Nodes[0], c.Mails = askerOf(0, 1), []impl.Mail{voteOf(0, 1, 1, 0, 0), voteOf(0, 2, 1, 0, 0)}
	})
}

func TestAllMailsOfWhoAsksForVotesCome(t *testing.T) {
	asks := asksForVotes()
	mustStand(t, impl.TimeoutAt(newThree(), 0), asks)
	one := impl.DeliverMail(asks, 0)
	mustStand(t, one, clusterWith(asks, func(c *impl.Cluster) {
		c.Nodes[1], c.Mails = followerOf(1, 1, 0), []impl.Mail{voteOf(0, 2, 1, 0, 0), grantOf(1, 0, 1, true)}
	}))
	two := impl.DeliverMail(one.Cluster, 0)
	mustStand(t, two, clusterWith(one.Cluster, func(c *impl.Cluster) {
		c.Nodes[2], c.Mails = followerOf(2, 1, 0), []impl.Mail{grantOf(1, 0, 1, true), grantOf(2, 0, 1, true)}
	}))
	// Two of three are enough, whichever of them comes.
	for at := range int64(2) {
		leads := impl.DeliverMail(two.Cluster, at)
		mustStand(t, leads, clusterWith(two.Cluster, func(c *impl.Cluster) {
			c.Nodes[0], c.Wins, c.Mails = leaderOf(0, 1), []impl.Won{{Term: 1, Node: 0}}, c.Mails[1-at:2-at]
		}))
		mustStand(t, impl.DeliverMail(leads.Cluster, 0), clusterWith(leads.Cluster, func(c *impl.Cluster) { c.Mails = nil }))
	}
}

func TestDeliverMailTakesTheMailAway(t *testing.T) {
	mails := []impl.Mail{voteOf(0, 1, 3, 0, 0), grantOf(1, 2, 3, false), appendOf(2, 1, 4, 0, 0, 0, termsLog(4)), takenOf(0, 2, 1, true, 1)}
	start := clusterWith(newThree(), func(c *impl.Cluster) { c.Mails = mails })
	comes := func(at int64, node impl.Node, answers ...impl.Mail) {
		t.Helper()
		mustStand(t, impl.DeliverMail(start, at), clusterWith(start, func(c *impl.Cluster) {
			c.Nodes[node.Id], c.Mails = node, slices.Concat(mails[:at], mails[at+1:], answers)
		}))
	}
	comes(0, followerOf(1, 3, 0), grantOf(1, 0, 3, true))
	comes(1, followerOf(2, 3, -1))
	comes(2, nodeWith(followerOf(1, 4, -1), func(n *impl.Node) { n.Log = termsLog(4) }), takenOf(1, 2, 4, true, 1))
	comes(3, followerOf(2, 1, -1))
	// One of several that are alike: the one of the place.
	alike := clusterWith(newThree(), func(c *impl.Cluster) { c.Mails = []impl.Mail{mails[1], mails[3], mails[1], mails[3]} })
	mustStand(t, impl.DeliverMail(alike, 2), clusterWith(alike, func(c *impl.Cluster) {
		c.Nodes[2], c.Mails = followerOf(2, 3, -1), []impl.Mail{mails[1], mails[3], mails[3]}
	}))
}

func TestAnAnswerMayTakeTheRoomOfItsMail(t *testing.T) {
	full := clusterWith(newThree(), func(c *impl.Cluster) { c.Mails = manyVotes(80, 0, 1) })
	for _, at := range []int64{0, 1, 40, 79} {
		mustStand(t, impl.DeliverMail(full, at), clusterWith(full, func(c *impl.Cluster) {
			c.Nodes[1], c.Mails = followerOf(1, at+1, 0), append(slices.Delete(c.Mails, int(at), int(at)+1), grantOf(1, 0, at+1, true))
		}))
	}
}

func TestDeliverMailTellsTheCodeOfTheNode(t *testing.T) {
	comes := func(c impl.Cluster, m impl.Mail, code int64) {
		t.Helper()
		c.Mails = []impl.Mail{voteOf(1, 2, 1, 0, 0), m}
		mustCluster(t, c, impl.OK)
		mustNotStand(t, impl.DeliverMail(c, 1), code)
		// That it may not come does not keep it from being told again, or never.
		stands(t, impl.CopyMail(c, 1))
		stands(t, impl.DropMail(c, 1))
	}
	led := ledThree(5, 1, 5)
	comes(led, appendOf(1, 0, 5, 0, 0, 0, nil), impl.ErrState)
	knows := clusterWith(led, nodeOff(1, func(n *impl.Node) { n.Commit = 2 }))
	comes(knows, appendOf(0, 1, 6, 1, 1, 0, termsLog(6)), impl.ErrState)
	full := ledThree(7, evenTerms(40, 7)...)
	comes(full, appendOf(0, 1, 8, 39, 7, 0, termsLog(8, 8)), impl.ErrMany)
	comes(full, appendOf(0, 1, 8, 40, 7, 0, termsLog(8)), impl.ErrMany)
}

func TestAMailThatComesTwice(t *testing.T) {
	asks := asksForVotes()
	twice := impl.CopyMail(asks, 0)
	mustStand(t, twice, clusterWith(asks, func(c *impl.Cluster) { c.Mails = append(c.Mails, c.Mails[0]) }))
	// Each of them gets an answer, but the votes of one node are one.
	once := stands(t, impl.DeliverMail(twice.Cluster, 0))
	both := impl.DeliverMail(once, 1)
	mustStand(t, both, clusterWith(asks, func(c *impl.Cluster) {
		c.Nodes[1], c.Mails = followerOf(1, 1, 0), []impl.Mail{voteOf(0, 2, 1, 0, 0), grantOf(1, 0, 1, true), grantOf(1, 0, 1, true)}
	}))
	leads := stands(t, impl.DeliverMail(both.Cluster, 1))
	mustStand(t, impl.DeliverMail(leads, 1), clusterWith(leads, func(c *impl.Cluster) { c.Mails = c.Mails[:1] }))
	// Entries that come twice are taken once.
	led := stands(t, impl.AskAt(ledThree(1), 0, 3, 1, plainCmds()[0]))
	sent := stands(t, impl.CopyMail(stands(t, impl.SpreadAt(led, 0)), 0))
	taken := stands(t, impl.DeliverMail(stands(t, impl.DeliverMail(sent, 2)), 0))
	log := []impl.Entry{askedOf(1, 3, 1, plainCmds()[0])}
	mustStand(t, impl.ClusterResult{Cluster: taken}, clusterWith(led, func(c *impl.Cluster) {
		c.Nodes[1].Log, c.Mails = log, []impl.Mail{appendOf(0, 2, 1, 0, 0, 0, log), takenOf(1, 0, 1, true, 1), takenOf(1, 0, 1, true, 1)}
	}))
	// And what is agreed by them is so once.
	agreed := stands(t, impl.DeliverMail(taken, 1))
	mustStand(t, impl.DeliverMail(agreed, 1), clusterWith(agreed, func(c *impl.Cluster) { c.Mails = c.Mails[:1] }))
	mustHold(t, agreed.Seals, sealsOf(1, log...))
}

func TestAMailThatNeverComes(t *testing.T) {
	mails := []impl.Mail{voteOf(0, 1, 3, 0, 0), grantOf(1, 2, 3, false), appendOf(2, 1, 4, 0, 0, 0, termsLog(4))}
	start := clusterWith(newThree(), func(c *impl.Cluster) { c.Mails = mails })
	for at := range int64(3) {
		mustStand(t, impl.DropMail(start, at), clusterWith(start, func(c *impl.Cluster) { c.Mails = slices.Concat(mails[:at], mails[at+1:]) }))
	}
	// Who gets no votes does not lead, however long it waits.
	lost := stands(t, impl.DropMail(stands(t, impl.DropMail(asksForVotes(), 1)), 0))
	mustStand(t, impl.ClusterResult{Cluster: lost}, clusterWith(newThree(), func(c *impl.Cluster) { c.Nodes[0] = askerOf(0, 1) }))
	for _, got := range mailOfCluster(lost, 0) {
		mustNotStand(t, got, impl.ErrRange)
	}
}

func TestCopyMailByHand(t *testing.T) {
	mails := []impl.Mail{voteOf(0, 1, 3, 0, 0), grantOf(1, 2, 3, false), appendOf(2, 1, 4, 0, 0, 0, termsLog(4, 4))}
	start := clusterWith(newThree(), func(c *impl.Cluster) { c.Mails = mails })
	for at := range int64(3) {
		mustStand(t, impl.CopyMail(start, at), clusterWith(start, func(c *impl.Cluster) { c.Mails = append(c.Mails, mails[at]) }))
	}
	for _, count := range []int{1, 78, 79, 80} {
		c := clusterWith(newThree(), func(c *impl.Cluster) { c.Mails = manyVotes(count, 0, 1) })
		if count < 80 {
			mustStand(t, impl.CopyMail(c, 0), clusterWith(c, func(c *impl.Cluster) { c.Mails = append(c.Mails, c.Mails[0]) }))
		} else {
			mustNotStand(t, impl.CopyMail(c, 0), impl.ErrMany)
		}
		// That there is no such mail is asked ahead of the room.
		mustNotStand(t, impl.CopyMail(c, int64(count)), impl.ErrRange)
	}
}
