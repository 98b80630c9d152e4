package tests

import (
	"slices"
	"testing"

	"loop.example/g00222/impl"
)

// hashNumbers are names, what is none, and what is far off.
func hashNumbers() []int64 {
	return append([]int64{1, 2, 5, 9, 77, 500, 998, 999}, notNames()...)
}

// askHashes calls every function of the layer on a number, and on a packet that has it as an address, and gives all that they answer.
func askHashes(n int64) []any {
	p := plainPacket()
	p.From = n
	return []any{
		impl.FlowOf(p), impl.HashFlow(flowOfFields(p)), impl.MixNumber(n, 7), impl.MixNumber(7, n), impl.MixNumber(n, n),
		impl.Permutation(n), impl.OffsetOf(n), impl.SkipOf(n),
	}
}

func TestHashesAnswerTheSameEachTime(t *testing.T) {
	mustAnswerTheSame(t, hashNumbers(), askHashes)
}

func TestPermutationAnswersNewMemory(t *testing.T) {
	for _, name := range allNames() {
		one, other := impl.Permutation(name).List, impl.Permutation(name).List
		for i := range one[:cap(one)] {
			one[:cap(one)][i] = -7
		}
		if !slices.Equal(other, wantOrder(name)) || !slices.Equal(impl.Permutation(name).List, wantOrder(name)) {
			t.Errorf("two answers for %d share memory", name)
		}
	}
}

func TestFlowOfLeavesTheLoadAsItWas(t *testing.T) {
	for _, length := range []int{0, 1, 2, 77, 200, 201, 700} {
		data := upTo(int64(length), length)
		p := plainPacket()
		p.Load = guarded(data)
		impl.FlowOf(p)
		if !guardHolds(p.Load, data) {
			t.Errorf("a load of %d bytes, or the room behind it, was changed", length)
		}
	}
}

func TestFlowOfNoLoadAndNilAreTheSame(t *testing.T) {
	p := plainPacket()
	p.Load = nil
	q := p
	q.Load = []byte{}
	if impl.FlowOf(p) != impl.FlowOf(q) || impl.FlowOf(p) != (impl.FlowResult{Flow: plainFlow()}) {
		t.Error("a packet without a load is of another flow than one with an empty one")
	}
}

func TestSizesOfTheLayer(t *testing.T) {
	if impl.TableSize != 31 || impl.MaxBackends != 8 {
		t.Errorf("TableSize is %d and MaxBackends %d", impl.TableSize, impl.MaxBackends)
	}
}
