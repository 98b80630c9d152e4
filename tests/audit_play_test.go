package tests

import (
	"math/rand"
	"slices"
	"testing"

	"loop.example/g00222/impl"
)

// safely gives the cluster of an answer that is to have no code, and is to be safe.
func safely(t *testing.T, got impl.ClusterResult) impl.Cluster {
	t.Helper()
	c := stands(t, got)
	if !impl.SafeCluster(c) || len(wantWrong(c)) > 0 {
		t.Fatalf("in %s %v and %v does not hold", short(c), wrongOf(c), wantWrong(c))
	}
	return c
}

// comeAmong lets all mails come that go from one of the nodes to another one of them; all others never come.
func comeAmong(t *testing.T, c impl.Cluster, nodes ...int64) impl.Cluster {
	t.Helper()
	for len(c.Mails) > 0 {
		if m := c.Mails[0]; slices.Contains(nodes, m.From) && slices.Contains(nodes, m.To) {
			c = safely(t, impl.DeliverMail(c, 0))
		} else {
			c = safely(t, impl.DropMail(c, 0))
		}
	}
	return c
}

// votesAmong lets a node ask for votes until it is in a term, while it hears of the others alone.
func votesAmong(t *testing.T, c impl.Cluster, node, term int64, others ...int64) impl.Cluster {
	t.Helper()
	for c.Nodes[node].Term < term {
		c = safely(t, impl.TimeoutAt(c, node))
		c = comeAmong(t, c, append(others, node)...)
	}
	return c
}

// spreadAmong lets a leader send what it has, while it hears of the others alone, as often as the longest log needs it.
func spreadAmong(t *testing.T, c impl.Cluster, node int64, others ...int64) impl.Cluster {
	t.Helper()
	for range 60 {
		c = safely(t, impl.SpreadAt(c, node))
		c = comeAmong(t, c, append(others, node)...)
	}
	return c
}

// asksAs lets a client ask, so that what it asks is told by its number.
func asksAs(t *testing.T, c impl.Cluster, node, seq int64) (impl.Cluster, impl.Entry) {
	t.Helper()
	x := plainCmds()[seq%9]
	return safely(t, impl.AskAt(c, node, 8, seq, x)), askedOf(c.Nodes[node].Term, 8, seq, x)
}

func TestWhateverHappensANewClusterIsSafe(t *testing.T) {
	wins, sealed, elder := 0, 0, 0
	for seed := range int64(200) {
		random := rand.New(rand.NewSource(1000 + seed))
		c := stands(t, impl.NewCluster([]int64{3, 5, 4, 2, 3, 5, 1}[seed%7]))
		for range 6 {
			alone := someAlone(random, c)
			if got := impl.TimeoutAt(c, random.Int63n(int64(len(c.Nodes)))); got.Code == impl.OK {
				c = safely(t, got)
			}
			for range 90 {
				before := impl.AgreedOf(c).Entries
				c = safely(t, impl.ClusterResult{Cluster: splitStep(random, c, alone)})
				// What is agreed is so for good.
				if now := impl.AgreedOf(c).Entries; !begins(now, before) {
					t.Fatalf("what was agreed is %v, and then %v", before, now)
				}
				if elderLeads(c) {
					elder++
				}
			}
		}
		wins, sealed = wins+len(c.Wins), sealed+len(c.Seals)
	}
	if wins < 500 || sealed < 1500 || elder < 500 {
		t.Errorf("there are %d wins and %d seals, and %d times one leads in an elder term", wins, sealed, elder)
	}
}

func TestAnEntryOfAnElderTermIsAgreedWithOneOfTheOwn(t *testing.T) {
	c := votesAmong(t, stands(t, impl.NewCluster(5)), 0, 1, 1, 2, 3, 4)
	c, first := asksAs(t, c, 0, 1)
	c = spreadAmong(t, c, 0, 1, 2, 3, 4)
	// One more comes to a single other node.
	c, lost := asksAs(t, c, 0, 2)
	c = safely(t, impl.CrashAt(spreadAmong(t, c, 0, 1), 0))
	// Those who have not heard of it are led by who takes another one there, which comes to nobody yet.
	c = votesAmong(t, c, 4, 2, 2, 3)
	c, kept := asksAs(t, c, 4, 3)
	c = safely(t, impl.CrashAt(c, 4))
	// The first one leads again, in term 3, and three of five have what it took in term 1.
	c = spreadAmong(t, votesAmong(t, c, 0, 3, 1, 2, 3), 0, 1, 2)
	mustBeLed(t, c, impl.OK, 0)
	mustAgree(t, c, impl.OK, first)
	if !slices.Equal(c.Nodes[2].Log, []impl.Entry{first, lost}) {
		t.Fatalf("the log of node 2 is %v", c.Nodes[2].Log)
	}
	// Without one of its own term it may yet be gone: who has that of term 2 may lead.
	gone := votesAmong(t, safely(t, impl.CrashAt(c, 0)), 4, 4, 1, 2, 3)
	mustBeLed(t, gone, impl.OK, 4)
	gone, last := asksAs(t, gone, 4, 4)
	gone = spreadAmong(t, gone, 4, 0, 1, 2, 3)
	mustAgree(t, gone, impl.OK, first, kept, last)
	// With one it is agreed, and who lacks it leads no more.
	stays, own := asksAs(t, c, 0, 5)
	stays = spreadAmong(t, stays, 0, 1, 2)
	mustAgree(t, stays, impl.OK, first, lost, own)
	for id := range int64(5) {
		stays = safely(t, impl.CrashAt(stays, id))
	}
	stays = votesAmong(t, stays, 4, 9, 0, 1, 2, 3)
	mustBeLed(t, stays, impl.ErrNone, 0)
	stays = spreadAmong(t, votesAmong(t, stays, 2, 10, 0, 1, 3, 4), 2, 0, 1, 3, 4)
	mustBeLed(t, stays, impl.OK, 2)
	mustAgree(t, stays, impl.OK, first, lost, own)
	if slices.Contains(stays.Nodes[4].Log, kept) {
		t.Errorf("the log of node 4 is %v", stays.Nodes[4].Log)
	}
}

func TestOneGoesOnToLeadInAnElderTermUntilItHears(t *testing.T) {
	c := spreadAmong(t, votesAmong(t, newThree(), 0, 1, 1, 2), 0, 1, 2)
	c, first := asksAs(t, c, 0, 1)
	c = spreadAmong(t, c, 0, 1, 2)
	c, lost := asksAs(t, c, 0, 2)
	c = votesAmong(t, c, 1, 2, 2)
	mustBeLed(t, c, impl.OK, 1)
	c, kept := asksAs(t, c, 1, 3)
	c = spreadAmong(t, c, 1, 2)
	// Two lead, and the elder one lacks what was agreed since.
	mustAgree(t, c, impl.OK, first, kept)
	if n := c.Nodes[0]; n.Role != impl.RoleLead || n.Term != 1 || !slices.Equal(n.Log, []impl.Entry{first, lost}) {
		t.Fatalf("node 0 is %s", short(n))
	}
	mustHold(t, c.Wins, []impl.Won{{Term: 1, Node: 0}, {Term: 2, Node: 1}})
	// It goes on to take what it is asked, but nothing of it is agreed: who is sent it tells of the later term.
	c, also := asksAs(t, c, 0, 4)
	if !slices.Contains(c.Nodes[0].Log, also) {
		t.Fatalf("node 0 is %s", short(c.Nodes[0]))
	}
	c = comeAmong(t, safely(t, impl.SpreadAt(c, 0)), 0, 1, 2)
	if n := c.Nodes[0]; n.Role != impl.RoleFollow || n.Term != 2 {
		t.Fatalf("node 0 is %s", short(n))
	}
	c = spreadAmong(t, c, 1, 0, 2)
	mustAgree(t, c, impl.OK, first, kept)
	for _, n := range c.Nodes {
		if !slices.Equal(n.Log, []impl.Entry{first, kept}) || n.Commit != 2 {
			t.Errorf("node %d is %s", n.Id, short(n))
		}
	}
}

func TestWhatStandsBehindWhatWasSentIsNotKnownToBeAgreed(t *testing.T) {
	c, log := votesAmong(t, newThree(), 0, 1, 1, 2), []impl.Entry{}
	asks := func(count int, node int64, others ...int64) {
		t.Helper()
		for range count {
			var x impl.Entry
			c, x = asksAs(t, c, node, int64(len(log)+1))
			log = append(log, x)
		}
		c = spreadAmong(t, c, node, others...)
	}
	asks(5, 0, 1, 2)
	// Three more come to nobody, and others lead then, who have something else there.
	asks(3, 0)
	log = log[:5]
	c = safely(t, impl.CrashAt(c, 0))
	c = votesAmong(t, c, 1, 2, 2)
	asks(6, 1, 2)
	c = votesAmong(t, safely(t, impl.CrashAt(c, 1)), 1, 3, 2)
	asks(1, 1, 2)
	mustAgree(t, c, impl.OK, log...)
	// That it has not what it is sent, it says again and again, so that it is sent what it has from the first entry on.
	c = safely(t, impl.SpreadAt(c, 1))
	c = safely(t, impl.DropMail(safely(t, impl.DeliverMail(c, 0)), 0))
	for range 12 {
		c = safely(t, impl.CopyMail(c, 0))
	}
	c = safely(t, impl.SpreadAt(comeAmong(t, c, 0, 1), 1))
	if m := c.Mails[0]; m.To != 0 || m.Index != 0 || m.Commit != 12 {
		t.Fatalf("the mail to node 0 is %+v", m)
	}
	// All of its log but the last three is agreed, but it knows so of what it was sent alone.
	c = safely(t, impl.DeliverMail(c, 0))
	if n := c.Nodes[0]; n.Commit != 4 || len(n.Log) != 8 {
		t.Fatalf("node 0 is %s", short(n))
	}
	c = spreadAmong(t, c, 1, 0, 2)
	for _, n := range c.Nodes {
		if n.Commit != 12 || !slices.Equal(n.Log, log) {
			t.Fatalf("%s has not %v", short(n), log)
		}
	}
}

func TestTwoWhoAskInOneTermDoNotBothLead(t *testing.T) {
	start := stands(t, impl.TimeoutAt(stands(t, impl.TimeoutAt(newThree(), 0)), 2))
	// Whichever of the mails to node 1 comes first, and though it crashes between them.
	for _, mails := range [][]impl.Mail{{voteOf(0, 1, 1, 0, 0), voteOf(2, 1, 1, 0, 0)}, {voteOf(2, 1, 1, 0, 0), voteOf(0, 1, 1, 0, 0)}} {
		c := start
		c.Mails = mails
		c = safely(t, impl.CrashAt(safely(t, impl.DeliverMail(c, 0)), 1))
		c = comeAmong(t, c, 0, 1, 2)
		mustHold(t, c.Wins, []impl.Won{{Term: 1, Node: mails[0].From}})
		mustBeLed(t, c, impl.OK, mails[0].From)
	}
	// Nobody leads, where each of four has two votes.
	c := stands(t, impl.NewCluster(4))
	for _, pair := range [][2]int64{{0, 1}, {2, 3}} {
		c = votesAmong(t, c, pair[0], 1, pair[1])
	}
	mustBeLed(t, c, impl.ErrNone, 0)
	mustHold(t, c.Wins, nil)
}

func TestANodeThatIsAloneIsSafe(t *testing.T) {
	c := newAlone()
	mustLack(t, c)
	mustBeLed(t, c, impl.ErrNone, 0)
	var log []impl.Entry
	for term := int64(1); term <= 40; term++ {
		c = safely(t, impl.TimeoutAt(c, 0))
		mustBeLed(t, c, impl.OK, 0)
		mustAgree(t, c, impl.OK, log...)
		var x impl.Entry
		c, x = asksAs(t, c, 0, term)
		log = append(log, x)
		mustAgree(t, c, impl.OK, log...)
		c = safely(t, impl.CrashAt(safely(t, impl.SpreadAt(c, 0)), 0))
		mustBeLed(t, c, impl.ErrNone, 0)
	}
	// What it knew and does not know any more is agreed all the same, also where there is no room for more.
	mustAgree(t, c, impl.OK, log...)
	c = safely(t, impl.TimeoutAt(c, 0))
	mustNotStand(t, impl.AskAt(c, 0, 8, 41, plainCmds()[0]), impl.ErrMany)
	mustAgree(t, c, impl.OK, log...)
}
