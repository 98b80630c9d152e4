package tests

import (
	"maps"
	"math/rand"
	"slices"
	"testing"

	"loop.example/g00222/impl"
)

// wrongOf names what does not hold in a cluster, as the functions of the layer tell it.
func wrongOf(c impl.Cluster) []string {
	return namesOf(impl.OneLeader(c), impl.LogsMatch(c), impl.SealsKept(c), impl.LeadersHave(c))
}

// namesOf names what does not hold.
func namesOf(holds ...bool) []string {
	var wrong []string
	for i, name := range []string{"OneLeader", "LogsMatch", "SealsKept", "LeadersHave"} {
		if !holds[i] {
			wrong = append(wrong, name)
		}
	}
	return wrong
}

// mustLack wants these alone not to hold in a cluster without a fault.
func mustLack(t *testing.T, c impl.Cluster, want ...string) {
	t.Helper()
	mustCluster(t, c, impl.OK)
	if got := wrongOf(c); !slices.Equal(got, want) {
		t.Errorf("of %s not %v but %v does not hold", short(c), want, got)
	}
	if safe := impl.SafeCluster(c); safe != (len(want) == 0) {
		t.Errorf("that %s is safe is told to be %v", short(c), safe)
	}
}

// mustBeLed wants who leads, or a code.
func mustBeLed(t *testing.T, c impl.Cluster, code, leader int64) {
	t.Helper()
	if got := impl.LeaderOf(c); got != (impl.IntResult{Code: code, Value: leader}) {
		t.Errorf("who leads %s is told as %v, not %d and %d", short(c), got, code, leader)
	}
}

// mustAgree wants what is agreed, or a code.
func mustAgree(t *testing.T, c impl.Cluster, code int64, entries ...impl.Entry) {
	t.Helper()
	got := impl.AgreedOf(c)
	if got.Code != code || !slices.Equal(got.Entries, entries) {
		t.Errorf("what is agreed in %s is told as %v, not %d and %v", short(c), got, code, entries)
	}
}

// wantOneLeader gathers who won each term.
func wantOneLeader(c impl.Cluster) bool {
	winners := map[int64]map[int64]bool{}
	for _, won := range c.Wins {
		if winners[won.Term] == nil {
			winners[won.Term] = map[int64]bool{}
		}
		winners[won.Term][won.Node] = true
		if len(winners[won.Term]) > 1 {
			return false
		}
	}
	return true
}

// wantLogsMatch holds the beginnings of each two logs against each other, at each index by itself.
func wantLogsMatch(c impl.Cluster) bool {
	for _, a := range c.Nodes {
		for _, b := range c.Nodes {
			for count := 1; count <= len(a.Log) && count <= len(b.Log); count++ {
				if wantLast(a.Log[:count]) == wantLast(b.Log[:count]) && !slices.Equal(a.Log[:count], b.Log[:count]) {
					return false
				}
			}
		}
	}
	return true
}

// wantSealsKept asks by each place that a node knows of.
func wantSealsKept(c impl.Cluster) bool {
	kept := true
	for _, n := range c.Nodes {
		for place, x := range n.Log {
			if int64(place) < n.Commit {
				kept = kept && place < len(c.Seals) && c.Seals[place].Entry == x
			}
		}
	}
	return kept
}

// wantLeadersHave asks by each seal, all who lead.
func wantLeadersHave(c impl.Cluster) bool {
	for place, sealed := range c.Seals {
		lacks := func(n impl.Node) bool {
			return n.Role == impl.RoleLead && n.Term >= sealed.Term && (place >= len(n.Log) || n.Log[place] != sealed.Entry)
		}
		if slices.ContainsFunc(c.Nodes, lacks) {
			return false
		}
	}
	return true
}

// wantWrong names what does not hold in a cluster, by the model.
func wantWrong(c impl.Cluster) []string {
	right := wantClusterFault(c) == impl.OK
	return namesOf(right && wantOneLeader(c), right && wantLogsMatch(c), right && wantSealsKept(c), right && wantLeadersHave(c))
}

// wantLed puts who leads in order.
func wantLed(c impl.Cluster) impl.IntResult {
	if code := wantClusterFault(c); code != impl.OK {
		return impl.IntResult{Code: code}
	}
	leads := slices.DeleteFunc(slices.Clone(c.Nodes), func(n impl.Node) bool { return n.Role != impl.RoleLead })
	slices.SortStableFunc(leads, func(a, b impl.Node) int { return int(b.Term - a.Term) })
	for _, n := range leads {
		return impl.IntResult{Value: n.Id}
	}
	return impl.IntResult{Code: impl.ErrNone}
}

func wantAgreedOf(c impl.Cluster) impl.EntriesResult {
	if code := wantClusterFault(c); code != impl.OK {
		return impl.EntriesResult{Code: code}
	}
	entries := make([]impl.Entry, len(c.Seals))
	for place := range entries {
		entries[place] = c.Seals[place].Entry
	}
	return impl.EntriesResult{Entries: bare(entries)}
}

// grownCluster gives a cluster that came of a new one.
func grownCluster(seed int64) impl.Cluster {
	random := rand.New(rand.NewSource(seed))
	c := impl.NewCluster(1 + seed%5).Cluster
	for range 2 + random.Intn(9) {
		alone := someAlone(random, c)
		if got := impl.TimeoutAt(c, random.Int63n(int64(len(c.Nodes)))); got.Code == impl.OK {
			c = got.Cluster
		}
		for range 80 {
			c = splitStep(random, c, alone)
		}
	}
	return c
}

// someAlone picks who is alone for a while: often one who leads, perhaps nobody.
func someAlone(random *rand.Rand, c impl.Cluster) int64 {
	leads := slices.IndexFunc(c.Nodes, func(n impl.Node) bool { return n.Role == impl.RoleLead })
	if leads >= 0 && random.Intn(2) == 0 {
		return int64(leads)
	}
	return random.Int63n(int64(len(c.Nodes)) + 3)
}

// splitStep lets something happen; mails of one place, from it and to it, never come.
func splitStep(random *rand.Rand, c impl.Cluster, alone int64) impl.Cluster {
	id, at := random.Int63n(int64(len(c.Nodes))), random.Int63n(int64(len(c.Mails))+1)
	got := impl.ClusterResult{Code: impl.ErrNone}
	switch random.Intn(24) {
	case 0:
		if random.Intn(4) == 0 {
			got = impl.TimeoutAt(c, id)
		}
	case 1:
		if random.Intn(12) == 0 {
			got = impl.CrashAt(c, id)
		}
	case 2, 3:
		x := someEntry(random, 1)
		got = impl.AskAt(c, id, x.Client, x.Seq, x.Cmd)
	case 4, 5:
		got = impl.SpreadAt(c, id)
	case 6:
		got = impl.CopyMail(c, at)
	case 7:
		if len(c.Mails) > 30 {
			got = impl.DropMail(c, at)
		}
	default:
		if at < int64(len(c.Mails)) && (c.Mails[at].From == alone || c.Mails[at].To == alone) {
			got = impl.DropMail(c, at)
		} else {
			got = impl.DeliverMail(c, at)
		}
	}
	if got.Code != impl.OK {
		return c
	}
	return got.Cluster
}

// turnCluster turns one thing of a cluster so that there comes no fault of it, in most cases.
func turnCluster(random *rand.Rand, c *impl.Cluster) {
	n := &c.Nodes[random.Intn(len(c.Nodes))]
	switch random.Intn(8) {
	case 0:
		c.Wins = append(c.Wins, impl.Won{Term: 1 + random.Int63n(6), Node: random.Int63n(int64(len(c.Nodes)))})
	case 1:
		if len(n.Log) > 0 {
			x := &n.Log[random.Intn(len(n.Log))]
			*x = someEntry(random, x.Term)
		}
	case 2:
		n.Commit = random.Int63n(int64(len(n.Log)) + 1)
	case 3:
		n.Term = min(n.Term+random.Int63n(3), 100000)
	case 4:
		if len(c.Seals) > 0 {
			c.Seals[random.Intn(len(c.Seals))].Term = 1 + random.Int63n(9)
		}
	case 5:
		if len(c.Seals) > 0 {
			x := &c.Seals[random.Intn(len(c.Seals))].Entry
			*x = someEntry(random, x.Term)
		}
	case 6:
		c.Seals = c.Seals[:random.Intn(len(c.Seals)+1)]
	case 7:
		log := slices.Clone(n.Log[:random.Intn(len(n.Log)+1)])
		*n = someNodeOf(random, n.Id, n.Peers, log)
	}
}

// manyTurned gives clusters that came of new ones, and clusters of which one thing or several were turned since.
func manyTurned(count int64) []impl.Cluster {
	random := rand.New(rand.NewSource(100))
	var clusters []impl.Cluster
	for seed := range count {
		c := grownCluster(seed)
		clusters = append(clusters, c)
		for turns := range 8 {
			turned := shaped(shape{}, c)
			for range 1 + turns%3 {
				turnCluster(random, &turned)
			}
			clusters = append(clusters, turned)
		}
	}
	return clusters
}

func TestAuditHelpersAgreeWithEachOther(t *testing.T) {
	wrong, codes, sealed, late := map[string]int{}, map[int64]int{}, 0, 0
	for i, c := range manyTurned(200) {
		code := wantClusterFault(c)
		codes[code]++
		if i%9 == 0 {
			sealed += len(c.Seals)
			if elderLeads(c) {
				late++
			}
			if names := wantWrong(c); len(names) > 0 {
				t.Fatalf("%v does not hold in %s, that came of a new one", names, short(c))
			}
		} else if code == impl.OK {
			for _, name := range wantWrong(c) {
				wrong[name]++
			}
		}
	}
	mustMeet(t, codes, 1200, impl.OK)
	if len(wrong) != 4 || slices.Min(slices.Collect(maps.Values(wrong))) < 50 || sealed < 500 || late < 10 {
		t.Errorf("what does not hold is %v, there are %d seals, and %d times one leads in an elder term", wrong, sealed, late)
	}
}

// elderLeads tells whether one leads in an elder term than another who leads.
func elderLeads(c impl.Cluster) bool {
	terms := map[int64]bool{}
	for _, n := range c.Nodes {
		if n.Role == impl.RoleLead {
			terms[n.Term] = true
		}
	}
	return len(terms) > 1
}
