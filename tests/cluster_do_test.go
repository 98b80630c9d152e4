package tests

import (
	"math/rand"
	"reflect"
	"slices"
	"testing"

	"loop.example/g00222/impl"
)

// stands gives the cluster of an answer that is to have no code.
func stands(t *testing.T, got impl.ClusterResult) impl.Cluster {
	t.Helper()
	if got.Code != impl.OK {
		t.Fatalf("the code is %d", got.Code)
	}
	mustCluster(t, got.Cluster, impl.OK)
	return got.Cluster
}

// nodeOfCluster asks each function that is told a node.
func nodeOfCluster(c impl.Cluster, node, client, seq int64, x impl.Cmd) []impl.ClusterResult {
	return []impl.ClusterResult{impl.TimeoutAt(c, node), impl.SpreadAt(c, node), impl.AskAt(c, node, client, seq, x), impl.CrashAt(c, node)}
}

// mailOfCluster asks each function that is told a mail.
func mailOfCluster(c impl.Cluster, at int64) []impl.ClusterResult {
	return []impl.ClusterResult{impl.DeliverMail(c, at), impl.CopyMail(c, at), impl.DropMail(c, at)}
}

func TestNewCluster(t *testing.T) {
	for peers := int64(-3); peers < 9; peers++ {
		got := impl.NewCluster(peers)
		if outside(peers, 1, 5) {
			mustNotStand(t, got, impl.ErrRange)
			continue
		}
		var nodes []impl.Node
		for id := range peers {
			nodes = append(nodes, impl.Node{Id: id, Peers: peers, Voted: -1})
		}
		mustStand(t, got, clusterOf(nodes...))
	}
	for _, far := range farNumbers {
		mustNotStand(t, impl.NewCluster(far), impl.ErrRange)
	}
}

func TestTimeoutAtByHand(t *testing.T) {
	one := impl.TimeoutAt(newThree(), 1)
	mustStand(t, one, clusterWith(newThree(), func(c *impl.Cluster) {
		c.Nodes[1], c.Mails = askerOf(1, 1), []impl.Mail{voteOf(1, 0, 1, 0, 0), voteOf(1, 2, 1, 0, 0)}
	}))
	// What is sent stands behind what is on its way already, by whom it may be.
	two := impl.TimeoutAt(one.Cluster, 0)
	mustStand(t, two, clusterWith(one.Cluster, func(c *impl.Cluster) {
		c.Nodes[0], c.Mails = askerOf(0, 1), append(c.Mails, voteOf(0, 1, 1, 0, 0), voteOf(0, 2, 1, 0, 0))
	}))
	three := impl.TimeoutAt(two.Cluster, 1)
	mustStand(t, three, clusterWith(two.Cluster, func(c *impl.Cluster) {
		c.Nodes[1], c.Mails = askerOf(1, 2), append(c.Mails, voteOf(1, 0, 2, 0, 0), voteOf(1, 2, 2, 0, 0))
	}))
	five := stands(t, impl.NewCluster(5))
	mustStand(t, impl.TimeoutAt(five, 4), clusterWith(five, func(c *impl.Cluster) {
		c.Nodes[4] = impl.Node{Id: 4, Peers: 5, Term: 1, Voted: 4, Role: impl.RoleAsk, Votes: []int64{4}}
		c.Mails = []impl.Mail{voteOf(4, 0, 1, 0, 0), voteOf(4, 1, 1, 0, 0), voteOf(4, 2, 1, 0, 0), voteOf(4, 3, 1, 0, 0)}
	}))
}

func TestSpreadAtByHand(t *testing.T) {
	led := clusterWith(ledThree(5, 1, 3, 5), func(c *impl.Cluster) {
		c.Nodes[0].Next, c.Mails = []int64{4, 2, 4}, []impl.Mail{voteOf(2, 1, 5, 3, 5)}
	})
	log := led.Nodes[0].Log
	once := impl.SpreadAt(led, 0)
	sent := []impl.Mail{appendOf(0, 1, 5, 1, 1, 0, log[1:]), appendOf(0, 2, 5, 3, 5, 0, nil)}
	mustStand(t, once, clusterWith(led, func(c *impl.Cluster) { c.Mails = append(c.Mails, sent...) }))
	mustStand(t, impl.SpreadAt(once.Cluster, 0), clusterWith(once.Cluster, func(c *impl.Cluster) { c.Mails = append(c.Mails, sent...) }))
	for node := int64(1); node < 3; node++ {
		mustNotStand(t, impl.SpreadAt(led, node), impl.ErrState)
	}
}

func TestCrashAtByHand(t *testing.T) {
	led := clusterWith(ledThree(5, 1, 3, 5), func(c *impl.Cluster) {
		c.Nodes[0].Commit, c.Seals = 2, sealsOf(5, c.Nodes[0].Log[:2]...)
		c.Mails = []impl.Mail{voteOf(0, 1, 4, 0, 0), appendOf(0, 2, 5, 2, 3, 2, nil)}
	})
	// What it sent goes on to be on its way, and what it won and knew to be agreed stays.
	mustStand(t, impl.CrashAt(led, 0), clusterWith(led, func(c *impl.Cluster) { c.Nodes[0] = followerOf(0, 5, 0, 1, 3, 5) }))
	mustStand(t, impl.CrashAt(led, 1), led)
	asks := clusterWith(led, func(c *impl.Cluster) { c.Nodes[2] = askerOf(2, 9, 1, 3) })
	mustStand(t, impl.CrashAt(asks, 2), clusterWith(asks, func(c *impl.Cluster) { c.Nodes[2] = followerOf(2, 9, 2, 1, 3) }))
	for place := range greatCluster().Nodes {
		mustStand(t, impl.CrashAt(greatCluster(), int64(place)), clusterWith(greatCluster(), nodeOff(place, func(n *impl.Node) {
			*n = impl.Node{Id: n.Id, Peers: 5, Term: 100000, Voted: n.Id, Log: n.Log}
		})))
	}
}

func TestAskAtByHand(t *testing.T) {
	led, x := ledThree(5, 1, 5), plainCmds()[4]
	asked := func(x impl.Entry) impl.Cluster {
		return clusterWith(led, nodeOff(0, func(n *impl.Node) {
			n.Log, n.Next[0], n.Match[0] = append(n.Log, x), 4, 3
		}))
	}
	mustStand(t, impl.AskAt(led, 0, 3, 9, x), asked(impl.Entry{Term: 5, Client: 3, Seq: 9, Cmd: x}))
	mustStand(t, impl.AskAt(led, 0, 999, 1000000, x), asked(impl.Entry{Term: 5, Client: 999, Seq: 1000000, Cmd: x}))
	// Who asks for nothing gets an entry of nothing.
	mustStand(t, impl.AskAt(led, 0, 0, 0, impl.Cmd{}), asked(impl.Entry{Term: 5}))
	// It takes the entry in its own term, whichever this is.
	for _, term := range []int64{1, 7, 100000} {
		got := stands(t, impl.AskAt(ledThree(term), 0, 1, 2, x))
		if !slices.Equal(got.Nodes[0].Log, []impl.Entry{askedOf(term, 1, 2, x)}) {
			t.Errorf("in term %d the log is %v", term, got.Nodes[0].Log)
		}
	}
}

func TestAskAtAsksForTheFirstCode(t *testing.T) {
	x, off := plainCmds()[0], cmdOf(4, -1, 0, 0, 0, 0)
	full := ledThree(7, evenTerms(40, 7)...)
	for _, c := range []impl.Cluster{ledThree(5, 1, 5), full} {
		wrong := func(client, seq int64, x impl.Cmd, code int64) {
			t.Helper()
			mustNotStand(t, impl.AskAt(c, 0, client, seq, x), code)
			// That it does not lead is asked ahead of what is asked for, and that there is such a node ahead of this.
			mustNotStand(t, impl.AskAt(c, 1, client, seq, x), impl.ErrState)
			mustNotStand(t, impl.AskAt(c, 3, client, seq, x), impl.ErrRange)
			mustNotStand(t, impl.AskAt(c, -1, client, seq, x), impl.ErrRange)
		}
		for _, far := range append([]int64{-1, 1000001}, farNumbers...) {
			wrong(far, 1, x, impl.ErrRange)
			wrong(1, far, x, impl.ErrRange)
			wrong(far, far, off, impl.ErrRange)
		}
		wrong(1000, 1, x, impl.ErrRange)
		wrong(0, 1, x, impl.ErrForm)
		wrong(1, 0, x, impl.ErrForm)
		wrong(1, 0, off, impl.ErrForm)
		wrong(1, 1, off, impl.ErrRange)
		wrong(1, 1, impl.Cmd{}, impl.ErrForm)
		wrong(0, 0, x, impl.ErrForm)
	}
	mustNotStand(t, impl.AskAt(full, 0, 1, 1, x), impl.ErrMany)
	mustNotStand(t, impl.AskAt(full, 0, 0, 0, impl.Cmd{}), impl.ErrMany)
	mustNotStand(t, impl.AskAt(full, 1, 1, 1, x), impl.ErrState)
}

func TestPlacesOfNodesAndMails(t *testing.T) {
	for _, c := range plainClusters() {
		nodes, mails := int64(len(c.Nodes)), int64(len(c.Mails))
		for _, far := range append([]int64{-1, 80, 81, 100}, farNumbers...) {
			for _, at := range []int64{far, max(far, nodes)} {
				for _, got := range nodeOfCluster(c, at, 1, 0, impl.Cmd{}) {
					mustNotStand(t, got, impl.ErrRange)
				}
			}
			for _, at := range []int64{far, max(far, mails), mails} {
				if outside(at, 0, mails-1) {
					for _, got := range mailOfCluster(c, at) {
						mustNotStand(t, got, impl.ErrRange)
					}
				}
			}
		}
	}
	great := greatCluster()
	stands(t, impl.DropMail(great, 0))
	stands(t, impl.DropMail(great, 79))
	stands(t, impl.CrashAt(great, 0))
	stands(t, impl.CrashAt(great, 4))
}

func TestClustersWithAFaultDoNothing(t *testing.T) {
	for _, stage := range clusterFaults() {
		for _, one := range stage {
			// Whatever place is told, and whatever would be asked behind it.
			c := clusterWith(steadyCluster(), one.do)
			for _, at := range []int64{0, 2, 3, -1, 1 << 62} {
				for _, got := range append(nodeOfCluster(c, at, 0, 1, impl.Cmd{}), mailOfCluster(c, at)...) {
					mustNotStand(t, got, one.code)
				}
			}
		}
	}
	mustNotStand(t, impl.TimeoutAt(impl.Cluster{}, 0), impl.ErrMany)
}

func TestThereIsRoomForEightyMails(t *testing.T) {
	x := plainCmds()[0]
	for count := 70; count <= 80; count++ {
		three := clusterWith(ledThree(5, 1, 5), func(c *impl.Cluster) { c.Mails = manyVotes(count, 0, 1) })
		five := clusterOf(impl.Node{Peers: 5, Term: 4, Role: impl.RoleLead, Next: evenTerms(5, 1), Match: evenTerms(5, 0)})
		for id := int64(1); id < 5; id++ {
			five.Nodes = append(five.Nodes, impl.Node{Id: id, Peers: 5, Voted: -1})
		}
		five.Mails = three.Mails
		for _, c := range []impl.Cluster{three, five} {
			most := 81 - len(c.Nodes)
			for _, got := range []impl.ClusterResult{impl.TimeoutAt(c, 1), impl.SpreadAt(c, 0)} {
				if count > most {
					mustNotStand(t, got, impl.ErrMany)
					continue
				}
				if mails := stands(t, got).Mails; len(mails) != count+len(c.Nodes)-1 || !reflect.DeepEqual(shaped(shape{}, mails[:count]), c.Mails) {
					t.Errorf("of %d mails %d came", count, len(mails))
				}
			}
			// Who sends nothing needs no room.
			stands(t, impl.AskAt(c, 0, 1, 1, x))
			stands(t, impl.CrashAt(c, 0))
			// What the node itself may not do is asked ahead of the room.
			mustNotStand(t, impl.TimeoutAt(c, 0), impl.ErrState)
			mustNotStand(t, impl.SpreadAt(c, 1), impl.ErrState)
			late := clusterWith(c, nodeOff(1, func(n *impl.Node) { n.Term = 100000 }))
			mustNotStand(t, impl.TimeoutAt(late, 1), impl.ErrRange)
		}
	}
}

func TestWhatManyClustersDo(t *testing.T) {
	random := rand.New(rand.NewSource(92))
	codes := map[int64]int{}
	for _, c := range append(manyClusters(2500), manyBadClusters(300)...) {
		node, at := random.Int63n(int64(len(c.Nodes))+1), random.Int63n(int64(len(c.Mails))+1)
		x := someEntry(random, 1)
		if random.Intn(6) == 0 {
			spoilEntry(random, &x)
		}
		want := []impl.ClusterResult{
			wantTold(c, node, wantTimeout), wantTold(c, node, wantSpread), wantAskAt(c, node, x.Client, x.Seq, x.Cmd), wantTold(c, node, wantCrash),
			wantDeliver(c, at), wantCopy(c, at), wantDrop(c, at),
		}
		for i, got := range append(nodeOfCluster(c, node, x.Client, x.Seq, x.Cmd), mailOfCluster(c, at)...) {
			if !reflect.DeepEqual(shaped(shape{}, got), shaped(shape{}, want[i])) {
				t.Fatalf("%s\nwith %d, %d and %v gives (%d)\n%s, not\n%s", short(c), node, at, x, i, short(got), short(want[i]))
			}
			codes[got.Code]++
		}
	}
	mustMeet(t, codes, 50, impl.OK, impl.ErrForm, impl.ErrMany, impl.ErrRange, impl.ErrState)
}
