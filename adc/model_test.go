package adc

import (
	"aneroid/air"
	"aneroid/api"
	"aneroid/baro"
	"aneroid/climb"
	"aneroid/fade"
	"aneroid/heat"
	"aneroid/hydro"
	"aneroid/lift"
	"aneroid/mach"
	"aneroid/modes"
	"aneroid/pair"
	"aneroid/sensor"
	"aneroid/signs"
	"aneroid/speed"
	"aneroid/tally"
	"aneroid/vote"
	"aneroid/wind"
	"aneroid/word"
)

// part is a channel of the model.
type part struct {
	name      byte
	tallies   [2]*tally.Tally
	automaton *modes.Automaton
	fader     *fade.Fader
	source    int
	value     int64
	differ    bool
}

// model follows the chapter literally, sentence by sentence.
type model struct {
	c       api.Conf
	air     air.Air
	tick    int
	log     []api.Event
	sensors [6]*sensor.Sensor
	learner *hydro.Learner
	wind    *wind.Estimator
	meter   *climb.Meter
	signs   [2]*signs.Signs
	q, p    *part
}

func newModel(c api.Conf) *model {
	m := &model{c: c}
	m.restore()
	return m
}

func (m *model) restore() {
	c := m.c
	plain := api.Cal{Gain: 65536}
	m.tick = 0
	m.sensors[0], _ = sensor.New(1, c.Stale, c.Pitot[0], c.Total, c.Lag)
	m.sensors[1], _ = sensor.New(2, c.Stale, c.Pitot[1], c.Total, c.Lag)
	m.sensors[2], _ = sensor.New(3, c.Stale, c.Static[0], c.Still, c.Lag)
	m.sensors[3], _ = sensor.New(4, c.Stale, c.Static[1], c.Still, c.Lag)
	m.sensors[4], _ = sensor.New(5, c.Stale, plain, api.Limits{Low: 150000, High: 400000, Rate: 50000}, c.Lag)
	m.sensors[5], _ = sensor.New(6, c.Stale, plain, api.Limits{Low: -60000, High: 60000, Rate: 60000}, c.Lag)
	m.learner, _ = hydro.New(c.Gate, 100)
	m.wind, _ = wind.New(4)
	m.meter, _ = climb.New(25)
	m.signs[0], _ = signs.New(signs.Watch{Eps: 16, Move: 64000, Ticks: 250, Floor: 640, High: 64000})
	m.signs[1], _ = signs.New(signs.Watch{Eps: 16, Move: 64000, Ticks: 250, Floor: 640, High: 64000})
	for _, name := range []byte("qp") {
		h := &part{name: name}
		h.tallies[0], _ = tally.New(c.Count)
		h.tallies[1], _ = tally.New(c.Count)
		h.automaton, _ = modes.New(c.Back)
		h.fader, _ = fade.New(c.Fade)
		if name == 'q' {
			m.q = h
		} else {
			m.p = h
		}
	}
}

func (m *model) note(code, arg int) {
	m.log = append(m.log, api.Event{Tick: m.tick, Code: code, Arg: arg})
	m.log = m.log[max(len(m.log)-32, 0):]
}

func (m *model) stepPart(h *part, a, b, s api.Reading) {
	all := [3]api.Reading{a, b, s}
	latched := func() [3]bool { return [3]bool{h.tallies[0].Latched(), h.tallies[1].Latched()} }
	ballot := vote.Bar(all, latched())
	h.differ = pair.Verdict(ballot[0], ballot[1], m.c.Tau) == pair.Differ
	code := map[byte]int{'q': 1, 'p': 3}[h.name]
	for i := range 2 {
		was := h.tallies[i].Latched()
		bad := all[i].Err != api.OK || h.differ && s.Err == api.OK && pair.Apart(all[i].Value, s.Value) > m.c.Tau
		h.tallies[i].Step(bad)
		if !was && h.tallies[i].Latched() {
			m.note(code+i, 0)
		}
	}
	ballot = vote.Bar(all, latched())
	there := vote.There(ballot) == 3
	far := there && pair.Apart(ballot[0].Value, s.Value) > 4*m.c.Tau && pair.Apart(ballot[1].Value, s.Value) > 4*m.c.Tau
	was := h.automaton.Mode()
	mode := h.automaton.Step(modes.Facts{Warm: m.tick > m.c.Warm, A: ballot[0].Err == 0, B: ballot[1].Err == 0, S: ballot[2].Err == 0, Differ: h.differ || far})
	if mode != was {
		m.note(map[byte]int{'q': 10, 'p': 11}[h.name], mode)
	}
	ballot = vote.Bar(ballot, [3]bool{mode >= 4, mode >= 4, mode == 5})
	v, source := vote.Pick(ballot, m.c.Tau)
	if source == api.Nobody {
		h.value, _ = h.fader.Out()
	} else {
		h.value = h.fader.Step(v, h.source != api.Nobody && h.source != source && was != modes.Warming)
	}
	h.source = source
}

func (h *part) good() bool {
	m := h.automaton.Mode()
	return m >= 1 && m <= 4 && h.source != api.Nobody
}

func (h *part) state() int {
	if h.good() {
		return api.Normal
	}
	if h.automaton.Mode() == modes.Warming {
		return api.NoData
	}
	return api.Failure
}

func worst(l ...int) int {
	found := [4]bool{}
	for _, s := range l {
		found[s] = true
	}
	if found[api.Failure] {
		return api.Failure
	}
	if found[api.NoData] {
		return api.NoData
	}
	return api.Normal
}

func stateFor(r api.Reading) int {
	if r.Err == api.OK {
		return api.Normal
	}
	return api.Failure
}

func (m *model) step(in api.Input) api.Output {
	if in.Reset {
		m.note(9, 0)
		m.restore()
	}
	m.tick = min(m.tick+1, 1000000)
	var r [6]api.Reading
	for i := range r {
		r[i] = m.sensors[i].Step(in.Frames[i])
	}
	s := api.Reading{Err: api.ErrNone}
	if _, ok := m.learner.Offset(); ok && in.Fixed {
		p, _ := m.learner.Pressure(&m.air, in.Height)
		s = api.Reading{Value: p}
	}
	m.stepPart(m.p, r[2], r[3], s)
	if m.p.automaton.Mode() == modes.Dual && in.Fixed {
		m.learner.Learn(in.Height, m.air.Height(m.p.value))
	}
	s = api.Reading{Err: api.ErrNone}
	if r[5].Err == api.OK {
		w := lift.Wing{Lift: m.c.Lift, Area: m.c.Wing, Least: m.c.LeastCL}
		s.Value, s.Err = lift.Synthetic(w, r[5].Value, in.Load, in.Weight, m.p.value)
	}
	m.stepPart(m.q, r[0], r[1], s)
	blocked := [2]int{m.signs[0].Step(r[0].Value, m.p.value), m.signs[1].Step(r[1].Value, m.p.value)}

	q, p := m.q.value, m.p.value
	var v [11]int64
	v[0] = m.air.Height(p)
	v[1] = baro.Corrected(&m.air, p, in.Baro)
	m.meter.Put(v[0])
	v[2], _ = m.meter.Rate()
	v[3] = speed.Calibrated(q)
	if q >= 0 {
		v[4], _ = mach.At(q, p)
	}
	v[6] = r[4].Value
	v[7] = heat.Static(v[6], v[4], m.c.Recovery)
	v[5] = speed.True(v[4], v[7])
	v[8] = r[5].Value
	if in.Fixed && m.q.good() && m.p.good() && r[4].Err == api.OK {
		m.wind.Step(wind.Flow{Tas: v[5], Heading: uint16(in.Track & 65535), North: in.North, East: in.East})
	}
	angle, blows := m.wind.From()
	v[9], v[10] = blows, int64(angle)

	sp, sq, st, sa := m.p.state(), m.q.state(), stateFor(r[4]), stateFor(r[5])
	states := [11]int{sp, sp, sp, sq, worst(sp, sq), worst(sp, sq, st), st, worst(sp, sq, st), sa, api.NoData, api.NoData}
	if in.Fixed {
		states[9], states[10] = states[5], states[5]
	}
	var out api.Output
	overflow := false
	for i, l := range m.c.Labels {
		w, clipped, _ := word.Put(l, 0, v[i], states[i])
		if clipped {
			overflow = true
			w, _, _ = word.Put(l, 0, v[i], api.Failure)
		}
		out.Words = append(out.Words, w)
	}
	mode := [2]int{m.q.automaton.Mode(), m.p.automaton.Mode()}
	out.Mode = mode
	flags := []bool{
		m.q.tallies[0].Latched(), m.q.tallies[1].Latched(), m.p.tallies[0].Latched(), m.p.tallies[1].Latched(),
		m.q.differ, m.p.differ, mode[0] == 4, mode[1] == 4, mode[0] == 5, mode[1] == 5,
		blocked[0]&1 != 0, blocked[1]&1 != 0, blocked[0]&2 != 0, blocked[1]&2 != 0,
		overflow, m.tick <= m.c.Warm, in.Baro < 7500 || in.Baro > 10800, !in.Fixed, in.Reset,
	}
	w := uint32(184) | 3<<29
	for i, f := range flags {
		if f {
			w |= 1 << (10 + i)
		}
	}
	out.Discrete = word.Parity(w)
	return out
}
