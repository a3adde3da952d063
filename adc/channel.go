package adc

import (
	"aneroid/api"
	"aneroid/fade"
	"aneroid/modes"
	"aneroid/pair"
	"aneroid/tally"
	"aneroid/vote"
)

// channel is one of both pressures with its supervision.
type channel struct {
	latchCode, modeCode int
	pair                *pair.Pair
	tallies             [2]*tally.Tally
	automaton           *modes.Automaton
	fader               *fade.Fader
	verdict, source     int
	value               int64
}

func newChannel(c api.Conf, latchCode, modeCode int) channel {
	h := channel{latchCode: latchCode, modeCode: modeCode}
	h.pair, _ = pair.New(c.Tau)
	for i := range h.tallies {
		h.tallies[i], _ = tally.New(c.Count)
	}
	h.automaton, _ = modes.New(c.Back)
	h.fader, _ = fade.New(c.Fade)
	return h
}

func (h *channel) mode() int {
	return h.automaton.Mode()
}

// good reports whether the value of the channel can be used.
func (h *channel) good() bool {
	switch h.mode() {
	case modes.Dual, modes.Only1, modes.Only2, modes.Synthetic:
		return h.source != api.Nobody
	}
	return false
}

// barred bars the probes whose tallies are latched.
func (h *channel) barred() [3]bool {
	return [3]bool{h.tallies[0].Latched(), h.tallies[1].Latched(), false}
}

// step performs the step of the channel with the readings of its probes and
// the synthetic one.
func (h *channel) step(k *Computer, first, second, synthetic api.Reading) {
	all := [3]api.Reading{first, second, synthetic}
	ballot := vote.Bar(all, h.barred())
	h.verdict = h.pair.Step(ballot[0], ballot[1])
	h.count(k, all)
	ballot = vote.Bar(all, h.barred())
	before := h.mode()
	h.decide(k, ballot)
	h.choose(k, ballot, before != modes.Warming)
}

// count steps the tallies of both probes, and notes those that become latched.
func (h *channel) count(k *Computer, all [3]api.Reading) {
	for i, t := range h.tallies {
		before := t.Latched()
		if t.Step(h.bad(all[i], all[2], k.conf.Tau)) && !before {
			k.note(h.latchCode+i, 0)
		}
	}
}

// bad reports whether a probe has an error, or is to blame for a difference.
func (h *channel) bad(probe, synthetic api.Reading, tau int64) bool {
	if probe.Err != api.OK {
		return true
	}
	return h.verdict == pair.Differ && synthetic.Err == api.OK && pair.Apart(probe.Value, synthetic.Value) > tau
}

// decide steps the automaton, and notes a change of its mode.
func (h *channel) decide(k *Computer, ballot [3]api.Reading) {
	before := h.mode()
	mode := h.automaton.Step(modes.Facts{
		Warm:   k.warm(),
		A:      ballot[0].Err == api.OK,
		B:      ballot[1].Err == api.OK,
		S:      ballot[2].Err == api.OK,
		Differ: h.verdict == pair.Differ || contradicted(ballot, k.conf.Tau),
	})
	if mode != before {
		k.note(h.modeCode, mode)
	}
}

// contradicted reports whether the synthetic reading is far from both probes.
func contradicted(ballot [3]api.Reading, tau int64) bool {
	return vote.There(ballot) == 3 &&
		pair.Apart(ballot[0].Value, ballot[2].Value) > 4*tau &&
		pair.Apart(ballot[1].Value, ballot[2].Value) > 4*tau
}

// choose selects the value and the source that the mode allows. While nothing
// can be selected, the value stays at the last output of the fader.
func (h *channel) choose(k *Computer, ballot [3]api.Reading, wasWarm bool) {
	switch h.mode() {
	case modes.Synthetic:
		ballot = vote.Bar(ballot, [3]bool{true, true, false})
	case modes.Lost:
		ballot = vote.Bar(ballot, [3]bool{true, true, true})
	}
	v, source := vote.Pick(ballot, k.conf.Tau)
	if source == api.Nobody {
		h.value, _ = h.fader.Out()
	} else {
		changed := h.source != api.Nobody && h.source != source && wasWarm
		h.value = h.fader.Step(v, changed)
	}
	h.source = source
}
