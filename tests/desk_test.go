package tests

import (
	"testing"

	"loop.example/g00571/impl"
)

func wantDeskCluster(t *testing.T) {
	t.Helper()
	want := impl.Cluster{
		Nodes: []impl.Node{
			{Name: "n1", Zone: "east", Cpu: 2000, Slots: 3},
			{Name: "n2", Zone: "east", Cpu: 1500, Slots: 2},
			{Name: "n3", Zone: "west", Cpu: 2000, Slots: 2},
		},
		Classes: []impl.Class{{Name: "fast", Zone: "east"}, {Name: "slow", Wait: true, Keep: true}},
	}
	if got := impl.DeskCluster(); !sameCluster(got, want) {
		t.Errorf("DeskCluster: got %+v, want %+v", got, want)
	}
}

func TestDeskCluster(t *testing.T) {
	wantDeskCluster(t)
	// Whatever is done to one that was handed out, the next one is as it was.
	first := impl.DeskCluster()
	first.Nodes[0].Name, first.Classes[0].Name, first.Now = "x", "x", 9
	first.Nodes[1].Mounts = append(first.Nodes[1].Mounts, "x")
	wantDeskCluster(t)
	wantApart(t, "two of them", impl.DeskCluster(), stretches(first))
}
