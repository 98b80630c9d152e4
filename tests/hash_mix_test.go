package tests

import (
	"math"
	"math/rand"
	"testing"

	"loop.example/g00222/impl"
)

func mustMix(t *testing.T, n, salt, want int64) {
	t.Helper()
	if got := impl.MixNumber(n, salt); got != want {
		t.Errorf("MixNumber(%d, %d) = %d, want %d", n, salt, got, want)
	}
}

func TestMixNumberOfKnownNumbers(t *testing.T) {
	known := []struct{ n, salt, want int64 }{
		{0, 0, 754792}, {1, 0, 2874}, {0, 1, 253828}, {255, 0, 16275}, {256, 0, 771953}, {258, 1000002, 808236},
		{65536, 3, 252034}, {1 << 24, 5, 249979}, {1<<32 - 1, 10006, 795233}, {1 << 32, 10007, 754792},
		{-1, 0, 425978}, {0, -1, 124044}, {-1, -1, 795233}, {-1 << 32, -10007, 754792}, {-1<<32 - 1, -10008, 795233},
		{math.MinInt64, math.MinInt64, 950866}, {math.MaxInt64, math.MaxInt64, 599159}, {math.MinInt64, math.MaxInt64, 927973},
	}
	for _, one := range known {
		mustMix(t, one.n, one.salt, one.want)
	}
}

func TestMixNumberOfManyNumbers(t *testing.T) {
	random := rand.New(rand.NewSource(301))
	for range 30000 {
		n, salt := someNumber(random), someNumber(random)
		mustMix(t, n, salt, wantMix(n, salt))
	}
	for _, n := range farNumbers {
		for _, salt := range farNumbers {
			mustMix(t, n, salt, wantMix(n, salt))
		}
	}
}

func TestMixNumberOfSmallNumbers(t *testing.T) {
	for n := int64(-600); n <= 600; n++ {
		mustMix(t, n, 3, wantMix(n, 3))
		mustMix(t, 3, n, wantMix(3, n))
	}
	for salt := int64(-20100); salt <= 20100; salt++ {
		mustMix(t, 77, salt, wantMix(77, salt))
	}
}

func TestMixNumberKeepsItsBounds(t *testing.T) {
	random := rand.New(rand.NewSource(302))
	for range 30000 {
		n, salt := someNumber(random), someNumber(random)
		if got := impl.MixNumber(n, salt); got < 0 || got >= 1000003 {
			t.Errorf("MixNumber(%d, %d) = %d leaves its bounds", n, salt, got)
		}
	}
}
