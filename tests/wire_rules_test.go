package tests

import (
	"bytes"
	"reflect"
	"testing"

	"loop.example/g00222/impl"
)

// wirePieces are bytes of many kinds: none, odd, even, frames, too many for a frame, too many for all.
func wirePieces() [][]byte {
	frames := joined(wantFrame([]byte{1, 2, 3}), wantFrame(nil), wantFrame(upTo(6, 40)))
	return [][]byte{
		{}, {7}, {1, 2}, {1, 2, 3}, {255, 255}, frames, frames[:len(frames)-1],
		joined(frames, []byte{0, 1}), upTo(7, 250), upTo(8, 251), upTo(9, 600), upTo(10, 601),
	}
}

// askWire calls every function of the layer on data and gives all that they answer.
func askWire(data []byte) []any {
	answers := []any{impl.SumWords(data), impl.WholeSum(data), impl.PutFrame(data), impl.TakeFrames(data)}
	for size := int64(-1); size <= 8; size++ {
		for at := int64(-1); at <= 8; at++ {
			answers = append(answers, impl.TakeNumber(data, at, size))
		}
		answers = append(answers, impl.TakeNumber(data, int64(len(data))-size, size), impl.PutNumber(int64(len(data)), size))
	}
	return answers
}

func TestWireLeavesItsArgumentsAsTheyWere(t *testing.T) {
	for _, data := range wirePieces() {
		given := guarded(data)
		askWire(given)
		if !guardHolds(given, data) {
			t.Errorf("%v, or the room behind it, was changed: %v", data, given[:cap(given)])
		}
	}
}

func TestWireReadsNothingBehindTheEnd(t *testing.T) {
	for _, data := range wirePieces() {
		if !reflect.DeepEqual(askWire(guarded(data)), askWire(bytes.Clone(data))) {
			t.Errorf("what lies behind %v is to be seen in an answer", data)
		}
	}
}

func TestWireAnswersTheSameEachTime(t *testing.T) {
	mustAnswerTheSame(t, wirePieces(), askWire)
}

func TestNoBytesAndNilAreTheSame(t *testing.T) {
	a, b := impl.PutFrame(nil), impl.PutFrame([]byte{})
	if a.Code != b.Code || !bytes.Equal(a.Bytes, b.Bytes) {
		t.Error("PutFrame tells nil from no bytes")
	}
	c, d := impl.TakeFrames(nil), impl.TakeFrames([]byte{})
	if c.Code != d.Code || c.Used != d.Used || !sameLists(c.Frames, d.Frames) {
		t.Error("TakeFrames tells nil from no bytes")
	}
	if impl.SumWords(nil) != impl.SumWords([]byte{}) || impl.WholeSum(nil) != impl.WholeSum([]byte{}) {
		t.Error("the sums tell nil from no bytes")
	}
	if impl.TakeNumber(nil, 0, 1) != impl.TakeNumber([]byte{}, 0, 1) {
		t.Error("TakeNumber tells nil from no bytes")
	}
}

func TestPutNumberAnswersNewMemory(t *testing.T) {
	one, other := impl.PutNumber(258, 3), impl.PutNumber(258, 3)
	spoil(one.Bytes)
	mustPut(t, 258, 3, []byte{0, 1, 2})
	if !bytes.Equal(other.Bytes, []byte{0, 1, 2}) {
		t.Error("two answers of PutNumber share memory")
	}
}

func TestPutFrameAnswersNewMemory(t *testing.T) {
	for _, data := range [][]byte{{}, {1}, {1, 2, 3}, upTo(11, 250)} {
		given := guarded(data)
		one, other := impl.PutFrame(given), impl.PutFrame(given)
		spoil(one.Bytes)
		if !guardHolds(given, data) || !bytes.Equal(other.Bytes, wantFrame(data)) {
			t.Errorf("PutFrame(%v) shares memory with its argument or with another answer", data)
		}
		spoil(given)
		if !bytes.Equal(other.Bytes, wantFrame(data)) {
			t.Errorf("PutFrame(%v) shares memory with its argument", data)
		}
	}
}

func TestTakeFramesAnswersNewMemory(t *testing.T) {
	list := [][]byte{{1, 2, 3}, {}, {4}, upTo(12, 64), {}, {5, 6}}
	data := putAll(list)
	for spoiled := range list {
		given := guarded(data)
		one, other := impl.TakeFrames(given), impl.TakeFrames(given)
		if len(one.Frames) != len(list) {
			t.Fatalf("TakeFrames(%v) = %v", data, one)
		}
		spoil(one.Frames[spoiled])
		one.Frames[spoiled] = list[spoiled]
		if !sameLists(one.Frames, list) {
			t.Errorf("frame %d shares memory with another frame of its answer", spoiled)
		}
		clear(one.Frames[:cap(one.Frames)])
		if !guardHolds(given, data) || !sameLists(other.Frames, list) {
			t.Errorf("frame %d shares memory with the argument or with another answer", spoiled)
		}
		spoil(given)
		if !sameLists(other.Frames, list) {
			t.Error("TakeFrames shares memory with its argument")
		}
	}
}
