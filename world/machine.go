package world

import (
	"sealchain/api"
	"sealchain/client"
	"sealchain/disk"
)

// node is what masters, replicas and clients have in common.
type node interface {
	Handle(p api.Packet) ([]api.Packet, api.Errno)
	Tick() ([]api.Packet, api.Errno)
}

// user is a client as a node: it sends at ticks alone.
type user struct {
	*client.Client
}

func (u user) Handle(p api.Packet) ([]api.Packet, api.Errno) {
	return nil, u.Client.Handle(p)
}

// machine runs a node of one kind while it is up; its disk remains.
type machine[N node] struct {
	disk *disk.Disk
	make func(d *disk.Disk) (N, api.Errno)
	up   bool
	node N
}

func newMachine[N node](make func(d *disk.Disk) (N, api.Errno)) *machine[N] {
	return &machine[N]{disk: disk.New(), make: make}
}

// start makes a node from the disk.
func (m *machine[N]) start() api.Errno {
	x, e := m.make(m.disk)
	if e != api.OK {
		return e
	}
	m.up, m.node = true, x
	return api.OK
}

// stop loses the node's state.
func (m *machine[N]) stop() {
	var none N
	m.up, m.node = false, none
}

func (m *machine[N]) isUp() bool { return m.up }

func (m *machine[N]) run() node { return m.node }

func (m *machine[N]) storage() *disk.Disk { return m.disk }

// part is a machine of any kind.
type part interface {
	start() api.Errno
	stop()
	isUp() bool
	run() node
	storage() *disk.Disk
}
