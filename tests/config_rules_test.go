package tests

import (
	"math/rand"
	"reflect"
	"slices"
	"testing"

	"loop.example/g00222/impl"
)

// configAsked is what the functions of the layer are asked with.
type configAsked struct {
	c      impl.Config
	x      impl.Cmd
	flow   impl.Flow
	number int64
}

// configQuestions pairs configurations with and without a fault, commands, flows, and names or places.
func configQuestions() []configAsked {
	random := rand.New(rand.NewSource(59))
	configs := append(manyConfigs(150), manyBadConfigs(150)...)
	numbers := append([]int64{0, 1, 2, 3, 4, 5, 8, 999}, notNames()...)
	var all []configAsked
	for i := range 1200 {
		c := configs[i%len(configs)]
		at := someServed(random, c)
		flow := impl.Flow{From: 1, To: at.address, Proto: at.proto, FromP: 2, ToP: at.port}
		if i%9 == 0 {
			flow.FromP = -1
		}
		all = append(all, configAsked{c, someCmd(random, c), flow, numbers[random.Intn(len(numbers))]})
	}
	return all
}

// askConfigs calls every function of the layer and gives all that they answer.
func askConfigs(q configAsked) []any {
	return []any{
		impl.ConfigFault(q.c), impl.CmdFault(q.x), impl.ApplyCmd(q.c, q.x), impl.BackendAt(q.c, q.number), impl.VipFor(q.c, q.flow),
		impl.SharesFor(q.c, q.number), impl.SameConfigs(q.c, q.c), impl.SameConfigs(plainConfig(), q.c), impl.SameConfigs(q.c, plainConfig()), impl.ConfigText(q.c),
	}
}

func TestConfigsAnswerTheSameEachTime(t *testing.T) {
	mustAnswerTheSame(t, configQuestions(), askConfigs)
}

// roomyConfig copies a configuration into lists that have more room behind them, and names there, too.
func roomyConfig(c impl.Config) impl.Config {
	c.Backends = roomy(c.Backends, backendOf(444, 4, 4, 1, true))
	c.Vips = roomy(c.Vips, vipOf(44, 4, 6, 444))
	all := c.Vips[:cap(c.Vips)]
	for i := range all {
		all[i].Names = roomy(all[i].Names, 555)
	}
	return c
}

// wholeConfig copies all that can be reached by a configuration, the room behind its lists too.
func wholeConfig(c impl.Config) impl.Config {
	c.Backends, c.Vips = slices.Clone(c.Backends[:cap(c.Backends)]), slices.Clone(c.Vips[:cap(c.Vips)])
	for i, vip := range c.Vips {
		c.Vips[i].Names = slices.Clone(vip.Names[:cap(vip.Names)])
	}
	return c
}

// spoilAll overwrites all that can be reached by a configuration.
func spoilAll(c impl.Config) {
	for _, vip := range c.Vips[:cap(c.Vips)] {
		for k := range vip.Names[:cap(vip.Names)] {
			vip.Names[:cap(vip.Names)][k] = -9
		}
	}
	for i := range c.Backends[:cap(c.Backends)] {
		c.Backends[:cap(c.Backends)][i] = backendOf(-9, -9, -9, -9, false)
	}
	for i := range c.Vips[:cap(c.Vips)] {
		c.Vips[:cap(c.Vips)][i] = vipOf(-9, -9, -9, -9)
	}
}

func TestConfigsLeaveTheirArgumentsAsTheyWere(t *testing.T) {
	for _, q := range configQuestions() {
		c := roomyConfig(q.c)
		whole := wholeConfig(c)
		askConfigs(configAsked{c, q.x, q.flow, q.number})
		if !alikeConfigs(wholeConfig(c), whole) {
			t.Fatalf("%v, or the room behind its lists, was changed by %v", q.c, q.x)
		}
	}
}

// doneCommands gives configurations with a command that each of them takes, of every kind.
func doneCommands(t *testing.T) []configAsked {
	random := rand.New(rand.NewSource(60))
	kinds := map[int64]int{}
	var all []configAsked
	for _, c := range manyConfigs(800) {
		for range 12 {
			x := someCmd(random, c)
			if code, _ := wantApply(c, x); code == impl.OK {
				all = append(all, configAsked{c: c, x: x})
				kinds[x.Kind]++
			}
		}
	}
	for kind := range int64(9) {
		if kinds[1+kind] < 20 {
			t.Errorf("of kind %d there are only %d commands", 1+kind, kinds[1+kind])
		}
	}
	return all
}

func TestApplyCmdAnswersNewMemory(t *testing.T) {
	for _, q := range doneCommands(t) {
		c := roomyConfig(q.c)
		whole := wholeConfig(c)
		one, other := impl.ApplyCmd(c, q.x).Config, impl.ApplyCmd(c, q.x).Config
		kept := cloneConfig(other)
		spoilAll(one)
		if !alikeConfigs(wholeConfig(c), whole) || !alikeConfigs(other, kept) {
			t.Fatalf("what %v makes of %v shares memory", q.x, q.c)
		}
		spoilAll(c)
		if !alikeConfigs(other, kept) {
			t.Fatalf("what %v makes of %v is the memory that it was given", q.x, q.c)
		}
	}
}

func TestTheNamesOfOneVipAreNotThoseOfAnother(t *testing.T) {
	for _, q := range doneCommands(t) {
		one := impl.ApplyCmd(q.c, q.x).Config
		for i, vip := range one.Vips {
			kept := cloneConfig(one)
			for k := range vip.Names[:cap(vip.Names)] {
				vip.Names[:cap(vip.Names)][k] = -9
			}
			// What was overwritten is put back into the copy: all else is to be as it was.
			kept.Vips[i].Names = slices.Clone(vip.Names)
			if !alikeConfigs(one, kept) {
				t.Fatalf("behind %v the vips of %v share names", q.x, q.c)
			}
		}
	}
}

func TestTheNamesOfAConfigurationMayBeOneList(t *testing.T) {
	// Who hands in two vips with one list of names gets two.
	names := roomy([]int64{3, 8}, 555)
	c := plainConfig()
	c.Vips = []impl.Vip{vipOf(9, 80, 6), vipOf(9, 80, 17), vipOf(9, 443, 6)}
	for i := range c.Vips {
		c.Vips[i].Names = names
	}
	answer := mustApply(t, c, cmdOf(impl.CmdAttach, -1, 5, 9, 80, 17))
	mustBe(t, impl.Config{Vips: answer.Vips}, impl.Config{Vips: []impl.Vip{vipOf(9, 80, 6, 3, 8), vipOf(9, 80, 17, 3, 5, 8), vipOf(9, 443, 6, 3, 8)}})
	answer = mustApply(t, c, cmdOf(impl.CmdDetach, -1, 3, 9, 80, 6))
	mustBe(t, impl.Config{Vips: answer.Vips}, impl.Config{Vips: []impl.Vip{vipOf(9, 80, 6, 8), vipOf(9, 80, 17, 3, 8), vipOf(9, 443, 6, 3, 8)}})
	answer.Vips[2].Names[0] = -9
	if answer.Vips[1].Names[0] != 3 || names[0] != 3 || !slices.Equal(names, []int64{3, 8}) {
		t.Errorf("the names %v are shared: %v", names, answer.Vips)
	}
}

func TestSharesForAnswersNewMemory(t *testing.T) {
	for _, c := range manyConfigs(300) {
		kept := cloneConfig(c)
		for place := range c.Vips {
			one, other := impl.SharesFor(c, int64(place)).Shares, impl.SharesFor(c, int64(place)).Shares
			want := slices.Clone(other)
			for i := range one[:cap(one)] {
				one[:cap(one)][i] = impl.Share{Name: -9, Weight: -9}
			}
			if !slices.Equal(other, want) || !alikeConfigs(c, kept) {
				t.Fatalf("the shares of vip %d of %v share memory", place, c)
			}
		}
	}
}

// bareConfig gives a configuration whose empty lists are nil, or of which none is.
func bareConfig(c impl.Config, bare bool) impl.Config {
	c = cloneConfig(c)
	if len(c.Backends) == 0 {
		c.Backends = map[bool][]impl.Backend{true: nil, false: {}}[bare]
	}
	if len(c.Vips) == 0 {
		c.Vips = map[bool][]impl.Vip{true: nil, false: {}}[bare]
	}
	for i := range c.Vips {
		if len(c.Vips[i].Names) == 0 {
			c.Vips[i].Names = map[bool][]int64{true: nil, false: {}}[bare]
		}
	}
	return c
}

func TestConfigsOfEmptyListsAndNilAreTheSame(t *testing.T) {
	for _, q := range configQuestions() {
		bare, empty := q, q
		bare.c, empty.c = bareConfig(q.c, true), bareConfig(q.c, false)
		if !impl.SameConfigs(bare.c, empty.c) || !impl.SameConfigs(empty.c, bare.c) {
			t.Fatalf("%v without lists and with empty ones are two things", q.c)
		}
		one, other := impl.ApplyCmd(bare.c, q.x), impl.ApplyCmd(empty.c, q.x)
		if one.Code != other.Code || !alikeConfigs(one.Config, other.Config) {
			t.Fatalf("%v is answered as %v and as %v", q, one, other)
		}
		first, second := askConfigs(bare), askConfigs(empty)
		first[2], second[2] = nil, nil
		if !reflect.DeepEqual(first, second) {
			t.Fatalf("%v is answered as %v and as %v", q, first, second)
		}
	}
}
