package tests

import (
	"bytes"
	"math/rand"
	"reflect"
	"slices"
	"testing"

	"loop.example/g00222/impl"
)

// codecAsked is what the functions of the layer are asked with.
type codecAsked struct {
	x    impl.Cmd
	a, b impl.Config
	data []byte
}

// codecQuestions has commands and configurations with and without a fault, and bytes of them, whole and damaged.
func codecQuestions() []codecAsked {
	random := rand.New(rand.NewSource(67))
	configs := append(manyConfigs(150), manyBadConfigs(150)...)
	all := []codecAsked{{}, {data: []byte{}}, {data: make([]byte, 6)}, {data: greatBytes(), a: greatConfig(), b: greatConfig()}}
	for i := range 1200 {
		c := configs[i%len(configs)]
		q := codecAsked{x: someCmd(random, c), a: c, b: configs[random.Intn(len(configs))]}
		q.data = [][]byte{wantConfigBytes(c), wantCmdBytes(q.x)}[i%2]
		if i%3 == 0 {
			q.data = damagedBytes(random, q.data)
		}
		if i%7 == 0 {
			q.data = upTo(int64(i), i%300)
		}
		all = append(all, q)
	}
	return all
}

// askCodec calls every function of the layer and gives all that they answer.
func askCodec(q codecAsked) []any {
	return []any{
		impl.PackCmd(q.x), impl.UnpackCmd(q.data), impl.PackConfig(q.a), impl.UnpackConfig(q.data), impl.DeltaOf(q.a, q.b), impl.DeltaOf(q.b, q.a),
	}
}

func TestCodecAnswersTheSameEachTime(t *testing.T) {
	mustAnswerTheSame(t, codecQuestions(), askCodec)
}

func TestCodecLeavesItsArgumentsAsTheyWere(t *testing.T) {
	for _, q := range codecQuestions() {
		a, b, data := roomyConfig(q.a), roomyConfig(q.b), guarded(q.data)
		wholeA, wholeB := wholeConfig(a), wholeConfig(b)
		askCodec(codecAsked{q.x, a, b, data})
		if !alikeConfigs(wholeConfig(a), wholeA) || !alikeConfigs(wholeConfig(b), wholeB) {
			t.Fatalf("%v or %v, or the room behind their lists, was changed", q.a, q.b)
		}
		if !guardHolds(data, q.data) {
			t.Fatalf("the bytes %v, or the room behind them, were changed", q.data)
		}
	}
}

func TestCodecAnswersTheSameWhateverRoomThereIs(t *testing.T) {
	for _, q := range codecQuestions() {
		roomed := codecAsked{q.x, roomyConfig(q.a), roomyConfig(q.b), guarded(q.data)}
		bare := codecAsked{q.x, cloneConfig(q.a), cloneConfig(q.b), slices.Clip(bytes.Clone(q.data))}
		if first, second := askCodec(roomed), askCodec(bare); !reflect.DeepEqual(first, second) {
			t.Fatalf("%v is answered as %v and as %v", q, first, second)
		}
	}
}

func TestPackingAnswersNewMemory(t *testing.T) {
	for _, x := range plainCmds() {
		one, other := impl.PackCmd(x).Bytes, impl.PackCmd(x).Bytes
		spoil(one)
		if !bytes.Equal(other, wantCmdBytes(x)) {
			t.Errorf("the bytes of %v are shared", x)
		}
	}
	for _, c := range append(manyConfigs(200), greatConfig()) {
		given := roomyConfig(c)
		one, other := impl.PackConfig(given).Bytes, impl.PackConfig(given).Bytes
		spoil(one)
		if !bytes.Equal(other, wantConfigBytes(c)) || !alikeConfigs(given, c) {
			t.Fatalf("the bytes of %v are shared", c)
		}
		spoilAll(given)
		if !bytes.Equal(other, wantConfigBytes(c)) {
			t.Fatalf("the bytes of %v are memory that was given", c)
		}
	}
}

func TestUnpackConfigAnswersNewMemory(t *testing.T) {
	for _, c := range append(manyConfigs(200), greatConfig()) {
		data := guarded(wantConfigBytes(c))
		one, other := impl.UnpackConfig(data).Config, impl.UnpackConfig(data).Config
		spoilAll(one)
		if !alikeConfigs(other, c) || !guardHolds(data, wantConfigBytes(c)) {
			t.Fatalf("what is read of %v shares memory", data)
		}
		spoil(data)
		if !alikeConfigs(other, c) {
			t.Fatalf("what is read of %v is the memory that was given", data)
		}
	}
}

func TestTheNamesThatAreReadOfOneVipAreNotThoseOfAnother(t *testing.T) {
	for _, c := range append(manyConfigs(200), greatConfig()) {
		for i := range c.Vips {
			one := impl.UnpackConfig(wantConfigBytes(c)).Config
			names := one.Vips[i].Names
			for k := range names[:cap(names)] {
				names[:cap(names)][k] = -9
			}
			one.Vips[i].Names = c.Vips[i].Names
			if !alikeConfigs(one, c) {
				t.Fatalf("the vips that are read of %v share names", c)
			}
		}
	}
}

func TestDeltaOfAnswersNewMemory(t *testing.T) {
	list := append(manyConfigs(100), greatConfig())
	for i, a := range list {
		b := list[(i*7+3)%len(list)]
		one, other := impl.DeltaOf(a, b).List, impl.DeltaOf(a, b).List
		for k := range one[:cap(one)] {
			one[:cap(one)][k] = -9
		}
		if !slices.Equal(other, wantDelta(a, b)) {
			t.Fatalf("the difference of %v and %v shares memory", a, b)
		}
	}
}

func TestCodecOfEmptyListsAndNilIsTheSame(t *testing.T) {
	for _, q := range codecQuestions() {
		bare := codecAsked{q.x, bareConfig(q.a, true), bareConfig(q.b, true), q.data}
		empty := codecAsked{q.x, bareConfig(q.a, false), bareConfig(q.b, false), append([]byte{}, q.data...)}
		if first, second := askCodec(bare), askCodec(empty); !reflect.DeepEqual(first, second) {
			t.Fatalf("%v is answered as %v and as %v", q, first, second)
		}
	}
	mustDelta(t, impl.Config{}, impl.Config{Backends: []impl.Backend{}, Vips: []impl.Vip{}})
	mustPackConfig(t, impl.Config{Backends: []impl.Backend{}, Vips: []impl.Vip{}}, make([]byte, 6))
}

func TestWhatIsReadIsWrittenAsTheSameBytes(t *testing.T) {
	commands, configs := 0, 0
	for _, q := range codecQuestions() {
		if read := impl.UnpackCmd(q.data); read.Code == impl.OK {
			commands++
			if impl.CmdFault(read.Cmd) != impl.OK || !bytes.Equal(impl.PackCmd(read.Cmd).Bytes, q.data) {
				t.Fatalf("%v is read as %v", q.data, read)
			}
		}
		if read := impl.UnpackConfig(q.data); read.Code == impl.OK {
			configs++
			if impl.ConfigFault(read.Config) != impl.OK || !bytes.Equal(impl.PackConfig(read.Config).Bytes, q.data) {
				t.Fatalf("%v is read as %v", q.data, read)
			}
		}
	}
	if commands < 100 || configs < 100 {
		t.Errorf("only %d commands and %d configurations are read", commands, configs)
	}
}
