import Derived.Test.YtgfildmmcbjpnabGreatLAR
import Derived.Test.YtgfildmmcbjpnabGreatLAT
namespace Go.Proofs.YtgfildmmcbjpnabGreat
open Go.RowKit

def RStrWord (w : World) (e : Ending) (w' : World) : Prop := ∃ (s : ByteArray) (x y : Int), e = .returned (.tuple #[.string s, .agg #[.int .i64 x, .int .i64 y]]) ∧ Bel w w' ∧ W32 x ∧ W32 y
theorem Bx.set {w a : World} {vs : List Value} (h : Bx w vs a) {p : Addr} (hp : w.heap.size ≤ p.block) {z : Int} (hz : W32 z) : Bx w vs (a.setCell p (.int .i64 z)) := ⟨h.1.step_set hp _, fun v hv => (h.2 v hv).set p hz⟩
theorem BoxW.new' {B n : Nat} {w : World} (hn : n = w.heap.size) (h : B ≤ n) {x y : Int} (hx : W32 x) (hy : W32 y) (t : TypeId) : BoxW B (w.alloc (.cells #[.int .i64 x, .int .i64 y] t)) (.pointer (some ⟨n, 0, none⟩)) := by
  subst hn; exact BoxW.new h hx hy t
theorem Bx.sub {w a : World} {vs us : List Value} (h : Bx w vs a) (k : ∀ v ∈ us, v ∈ vs) : Bx w us a := ⟨h.1, fun v hv => h.2 v (k v hv)⟩

set_option maxRecDepth 100000 in
set_option maxHeartbeats 1600000 in
theorem behind_any (p : Nat) (c : Cfg) (gen : Int) (B : List BK) (E : List EN) (h1 h2 : Int) (w : World) (h : StateAt w p c gen B E) (hE : E.length ≤ 140000) (hI : ∀ x ∈ E, W32 x.2.1 ∧ W32 x.2.2) (hh1 : W32 h1) (hh2 : W32 h2) :
    Calls Tryz.prog 94 #[.pointer (some ⟨p, 0, none⟩), .agg #[.int .i64 h1, .int .i64 h2]] w (RStrWord w) := by
  obtain ⟨vB, vE, _, _, _, c8, _, hpE⟩ := h
  have hpw : p < w.heap.size := World.block_lt_of_cell? w ⟨p, 8, none⟩ c8
  obtain ⟨ao, cap, rfl, hc⟩ := hpE.off
  go_enter Tryz.func94, Tryz.ntmps94
  go_wp2
  go_loopg [6, 8] E.length (fun r b i wr => ∃ (s : ByteArray) (k : Nat), k ≤ E.length ∧ r = E.length - k ∧ b = .string s ∧ i = .int .i64 k ∧ Bx w [.pointer (some ⟨w.heap.size, 0, none⟩), .pointer (some ⟨w.heap.size + 1, 0, none⟩), .pointer (some ⟨w.heap.size + 1 + 1, 0, none⟩)] wr)
  case atStart =>
    refine ⟨_, 0, by omega, by omega, rfl, rfl, by (repeat (first | exact Bel.refl _ | assumption | refine Bel.step_alloc ?_ _ | refine Bel.step_drew ?_ | refine Bel.step_drewN ?_ _ | refine Bel.step_set ?_ (by simp <;> omega) _ | refine Bel.trans ?_ (by assumption))), ?_⟩
    have b3 : BoxW w.heap.size (((w.alloc (.cells #[.int .i64 h1, .int .i64 h2] 129)).alloc (.cells #[.int .i64 0, .int .i64 0] 129)).alloc (.cells #[.int .i64 0, .int .i64 0] 129)) (.pointer (some ⟨w.heap.size, 0, none⟩)) := (BoxW.new (Nat.le_refl _) hh1 hh2 129).later (by (repeat (first | exact Bel.refl _ | assumption | refine Bel.step_alloc ?_ _ | refine Bel.step_drew ?_ | refine Bel.step_drewN ?_ _ | refine Bel.step_set ?_ (by simp <;> omega) _ | refine Bel.trans ?_ (by assumption))))
    have b5 : BoxW w.heap.size (((w.alloc (.cells #[.int .i64 h1, .int .i64 h2] 129)).alloc (.cells #[.int .i64 0, .int .i64 0] 129)).alloc (.cells #[.int .i64 0, .int .i64 0] 129)) (.pointer (some ⟨w.heap.size + 1, 0, none⟩)) := (BoxW.new' (w := w.alloc (.cells #[.int .i64 h1, .int .i64 h2] 129)) (by simp) (by omega) W32_zero W32_zero 129).later (by (repeat (first | exact Bel.refl _ | assumption | refine Bel.step_alloc ?_ _ | refine Bel.step_drew ?_ | refine Bel.step_drewN ?_ _ | refine Bel.step_set ?_ (by simp <;> omega) _ | refine Bel.trans ?_ (by assumption))))
    have b7 : BoxW w.heap.size (((w.alloc (.cells #[.int .i64 h1, .int .i64 h2] 129)).alloc (.cells #[.int .i64 0, .int .i64 0] 129)).alloc (.cells #[.int .i64 0, .int .i64 0] 129)) (.pointer (some ⟨w.heap.size + 1 + 1, 0, none⟩)) := BoxW.new' (by simp) (by omega) W32_zero W32_zero 129
    intro v hv
    simp only [List.mem_cons, List.not_mem_nil, or_false] at hv
    rcases hv with rfl | rfl | rfl
    · exact b3
    · exact b5
    · exact b7
  case round =>
    obtain ⟨s, k, hk, hr, rfl, rfl, hbx⟩ := hrel
    have d8 := hbx.1.cell c8
    by_cases hlt : k < E.length
    · obtain ⟨g, off, rfl, q0, q1, q2⟩ := hc k hlt
      have r0 := hbx.1.cell q0
      have r1 := hbx.1.cell q1
      have r2 := hbx.1.cell q2
      obtain ⟨hW1, hW2⟩ := hI _ (List.getElem_mem hlt)
      clear hc hI q0 q1 q2
      generalize E[k] = en at *
      obtain ⟨id, ehi, elo⟩ := en
      simp only at r0 r1 r2 hW1 hW2
      go_upto_region 6 with fail
      go_cut [9] (fun u9 wc => Bx w [u9, .pointer (some ⟨w.heap.size, 0, none⟩), .pointer (some ⟨w.heap.size + 1, 0, none⟩), .pointer (some ⟨w.heap.size + 1 + 1, 0, none⟩)] wc ∧ wc.cell? ⟨g, off + k * 3, none⟩ = some (.string id))
      case first =>
        obtain ⟨p3, x3, y3, E3, hp3, c30, c31, f30, f31, hx3, hy3⟩ := hbx.2 (.pointer (some ⟨w.heap.size, 0, none⟩)) (by simp)
        simp only [Value.pointer.injEq, Option.some.injEq, Addr.mk.injEq, and_true] at E3
        subst E3
        go_region_held3 (fun w' => Bel wr w' ∧ w'.cell? ⟨p, 8, none⟩ = some (.slice (some ⟨g, off, none⟩) E.length cap) ∧ w'.cell? ⟨g, off + k * 3 + 1, none⟩ = some (.int .i64 ehi) ∧ w'.cell? ⟨g, off + k * 3 + 2, none⟩ = some (.int .i64 elo) ∧ w'.cell? ⟨w.heap.size, 0, none⟩ = some (.int .i64 x3) ∧ w'.cell? ⟨w.heap.size, 1, none⟩ = some (.int .i64 y3)) ((refine keep5 ?_ d8 r1 r2 c30 c31; (repeat (first | exact Bel.refl _ | assumption | refine Bel.step_alloc ?_ _ | refine Bel.step_drew ?_ | refine Bel.step_drewN ?_ _ | refine Bel.step_set ?_ (by simp <;> omega) _ | refine Bel.trans ?_ (by assumption))))) ((go_at_call 114; refine (minus_any _ _ _ _ _ hW1 hW2 hx3 hy3).mono ?_; rintro e w2 ⟨z0, z1, rfl, hb2, k0, k1, -⟩; obtain ⟨hq2, hf2⟩ := hb2.cells))
        all_goals
          go_wp2_with fail
          go_meet
          case rel =>
            have hB : Bel wr w2 := by (repeat (first | exact Bel.refl _ | assumption | refine Bel.step_alloc ?_ _ | refine Bel.step_drew ?_ | refine Bel.step_drewN ?_ _ | refine Bel.step_set ?_ (by simp <;> omega) _ | refine Bel.trans ?_ (by assumption)))
            have hw := (hbx.1.trans hB).size
            have hw1 := hbx.1.size
            first
              | exact ⟨((hbx.later hB).later (Bel.step_alloc (Bel.refl _) _)).cons (BoxW.new hw k0 k1 _), (hB.trans (Bel.step_alloc (Bel.refl _) _)).cell r0⟩
              | exact ⟨(((hbx.later hB).set (p := ⟨wr.heap.size, 0, none⟩) hw1 k0).set (p := ⟨wr.heap.size, 1, none⟩) hw1 k1).cons (BoxW.stored hw1 ((hq2 _ _ (by simp)).trans (by simp; rfl)) ((hq2 _ _ (by simp)).trans (by simp; rfl)) ((hf2 _ _ (by simp)).trans (by simp)) ((hf2 _ _ (by simp)).trans (by simp)) k0 k1), ((hB.step_set (p := ⟨wr.heap.size, 0, none⟩) (Nat.le_refl _) _).step_set (p := ⟨wr.heap.size, 1, none⟩) (Nat.le_refl _) _).cell r0⟩
      case rest =>
        obtain ⟨hbx', hid⟩ := hcut
        obtain ⟨p9, x9, y9, E9, hp9, c90, c91, f90, f91, hx9, hy9⟩ := hbx'.2 u9 (by simp)
        subst E9
        obtain ⟨p7, x7, y7, E7, hp7, c70, c71, f70, f71, hx7, hy7⟩ := hbx'.2 (.pointer (some ⟨w.heap.size + 1 + 1, 0, none⟩)) (by simp)
        simp only [Value.pointer.injEq, Option.some.injEq, Addr.mk.injEq, and_true] at E7
        subst E7
        have e8 := hbx'.1.cell c8
        clear r0 r1 r2 d8
        go_wp2_with fail
        refine (below_any _ _ _ _ _).mono ?_
        rintro e w3 ⟨less, rfl, hb3, -⟩
        have d90 := hb3.cell c90
        have d91 := hb3.cell c91
        have d70 := hb3.cell c70
        have d71 := hb3.cell c71
        have e70 := hb3.frozen c70 f70
        have e71 := hb3.frozen c71 f71
        have g8 := hb3.cell e8
        have hid3 := hb3.cell hid
        have hbx3 := (hbx'.later hb3).sub (us := [.pointer (some ⟨w.heap.size, 0, none⟩), .pointer (some ⟨w.heap.size + 1, 0, none⟩), .pointer (some ⟨w.heap.size + 1 + 1, 0, none⟩)]) (fun v hv => List.mem_cons_of_mem _ hv)
        cases hk0 : ((k : Int) == 0) <;> cases less
        all_goals
          go_wp2_with fail
          go_roundg (E.length - (k + 1))
          case measure => omega
          case rel => first | exact ⟨_, k + 1, by omega, rfl, rfl, by go_num, hbx3⟩ | exact ⟨_, k + 1, by omega, rfl, rfl, by go_num, (hbx3.set (p := ⟨w.heap.size + 1 + 1, 0, none⟩) hp7 hx9).set (p := ⟨w.heap.size + 1 + 1, 1, none⟩) hp7 hy9⟩
    · obtain ⟨p7, x7, y7, E7, hp7, c70, c71, f70, f71, hx7, hy7⟩ := hbx.2 (.pointer (some ⟨w.heap.size + 1 + 1, 0, none⟩)) (by simp)
      simp only [Value.pointer.injEq, Option.some.injEq, Addr.mk.injEq, and_true] at E7
      subst E7
      obtain ⟨p5, x5, y5, E5, hp5, c50, c51, f50, f51, hx5, hy5⟩ := hbx.2 (.pointer (some ⟨w.heap.size + 1, 0, none⟩)) (by simp)
      simp only [Value.pointer.injEq, Option.some.injEq, Addr.mk.injEq, and_true] at E5
      subst E5
      go_wp2_with fail
      go_region
      all_goals
        go_wp2
        refine bodyPost_ret (v := .tuple #[.string s, .agg #[.int .i64 x7, .int .i64 y7]]) (by simp [results, Tryz.results94, go_sem, c50, c51]) rfl ⟨s, x7, y7, rfl, ?_, hx7, hy7⟩
        exact ((hbx.1.step_drew).step_set (p := ⟨w.heap.size + 1, 0, none⟩) hp5 _).step_set (p := ⟨w.heap.size + 1, 1, none⟩) hp5 _

end Go.Proofs.YtgfildmmcbjpnabGreat

namespace Go.Proofs.YtgfildmmcbjpnabGreat
open Go.RowKit

def RStrInt (w : World) (e : Ending) (w' : World) : Prop := ∃ (s : ByteArray) (n : Int), e = .returned (.tuple #[.string s, .int .i64 n]) ∧ Bel w w'

def idAt (E : List EN) (j : Nat) : ByteArray := (E[j]?.map (·.1)).getD ByteArray.empty
theorem EntsOff.ids {w : World} {ao : Option Addr} {cap : Nat} {E : List EN} (hc : ∀ j (h : j < E.length), ∃ g off, ao = some ⟨g, off, none⟩ ∧ w.cell? ⟨g, off + j * 3, none⟩ = some (.string E[j].1) ∧ w.cell? ⟨g, off + j * 3 + 1, none⟩ = some (.int .i64 E[j].2.1) ∧ w.cell? ⟨g, off + j * 3 + 2, none⟩ = some (.int .i64 E[j].2.2)) (h1 : 1 ≤ E.length) (_ : cap = cap) :
    ∃ g off, ao = some ⟨g, off, none⟩ ∧ ∀ j, j < E.length → w.cell? ⟨g, off + j * 3, none⟩ = some (.string (idAt E j)) := by
  obtain ⟨g, off, ha, _⟩ := hc 0 h1
  refine ⟨g, off, ha, fun j hj => ?_⟩
  obtain ⟨g', off', hb, h0, _⟩ := hc j hj
  rw [ha] at hb
  simp only [Option.some.injEq, Addr.mk.injEq, and_true] at hb
  obtain ⟨rfl, rfl⟩ := hb
  simpa [idAt, hj] using h0
theorem keep5i {w w' : World} {a0 a1 a2 a3 : Addr} {v0 v1 v2 v3 : Value} {g off n : Nat} {E : List EN} (h : Bel w w') (c0 : w.cell? a0 = some v0) (c1 : w.cell? a1 = some v1) (c2 : w.cell? a2 = some v2) (c3 : w.cell? a3 = some v3) (ci : ∀ j, j < n → w.cell? ⟨g, off + j * 3, none⟩ = some (.string (idAt E j))) :
    Bel w w' ∧ w'.cell? a0 = some v0 ∧ w'.cell? a1 = some v1 ∧ w'.cell? a2 = some v2 ∧ w'.cell? a3 = some v3 ∧ ∀ j, j < n → w'.cell? ⟨g, off + j * 3, none⟩ = some (.string (idAt E j)) := ⟨h, h.cell c0, h.cell c1, h.cell c2, h.cell c3, fun j hj => h.cell (ci j hj)⟩

set_option maxRecDepth 100000 in
set_option maxHeartbeats 3200000 in
theorem choose_any (p : Nat) (c : Cfg) (gen : Int) (B : List BK) (E : List EN) (key : ByteArray) (w : World) (h : StateAt w p c gen B E) (hok : StateOK c gen B E) (hI : ∀ x ∈ E, W32 x.2.1 ∧ W32 x.2.2) (hkey : key.size ≤ 1099511627000) :
    Calls Tryz.prog 58 #[.pointer (some ⟨p, 0, none⟩), .string key] w (RStrInt w) := by
  have h0 := h
  obtain ⟨vB, vE, ⟨c0, c1, c2, c3, c4, c5⟩, c6, c7, c8, hpB, hpE⟩ := h
  obtain ⟨hc, hg, hB, hE, hid, hsl⟩ := hok
  obtain ⟨k1, k2, k3, k4, -, k5, k6, k7, k8, k9, -, -⟩ := hc
  obtain ⟨ao, cap, rfl, hcE⟩ := hpE.off
  obtain ⟨alg, slots, points, probes, ckey, formats⟩ := c
  simp only at c0 c1 c2 c3 c4 c5 k1 k2 k3 k4 k5 k6 k7 k8 k9 hsl
  by_cases hE0 : E = []
  · subst hE0
    go_enter Tryz.func58, Tryz.ntmps58
    go_wp2
    go_ret2
    exact ⟨_, _, rfl, by (repeat (first | exact Bel.refl _ | assumption | refine Bel.step_alloc ?_ _ | refine Bel.step_drew ?_ | refine Bel.step_drewN ?_ _ | refine Bel.step_set ?_ (by simp <;> omega) _ | refine Bel.trans ?_ (by assumption)))⟩
  · have hEl : 1 ≤ E.length := by
      rcases Nat.lt_or_ge 0 E.length with h | h
      · exact h
      · exact absurd (List.eq_nil_of_length_eq_zero (by omega)) hE0
    have hE0' : ((E.length : Int) == 0) = false := by rw [beq_eq_false_iff_ne]; omega
    by_cases ha2 : alg = 2
    · subst ha2
      go_enter Tryz.func58, Tryz.ntmps58
      go_wp2_with fail
      refine (hash_any ckey _ _ k9 (by rw [ByteArray.size_append, show (({ data := #[107] } : ByteArray)).size = 1 from rfl]; omega)).mono ?_
      rintro e w1 ⟨x, y, rfl, hb1, hx, hy, -⟩
      go_wp2_with fail
      refine (behind_any p _ gen B E x y _ (h0.later (by (repeat (first | exact Bel.refl _ | assumption | refine Bel.step_alloc ?_ _ | refine Bel.step_drew ?_ | refine Bel.step_drewN ?_ _ | refine Bel.step_set ?_ (by simp <;> omega) _ | refine Bel.trans ?_ (by assumption))))) hE hI hx hy).mono ?_
      rintro e w2 ⟨s, x2, y2, rfl, hb2, -, -⟩
      go_wp2
      go_ret2
      exact ⟨_, _, rfl, by (repeat (first | exact Bel.refl _ | assumption | refine Bel.step_alloc ?_ _ | refine Bel.step_drew ?_ | refine Bel.step_drewN ?_ _ | refine Bel.step_set ?_ (by simp <;> omega) _ | refine Bel.trans ?_ (by assumption)))⟩
    · by_cases ha4 : alg = 4
      · subst ha4
        clear hsl
        go_enter Tryz.func58, Tryz.ntmps58
        go_wp2_with fail
        go_loopg [9, 11] probes.toNat (fun r b i wr => ∃ (s : ByteArray) (k : Nat), r = probes.toNat - k ∧ (k : Int) ≤ probes ∧ b = .string s ∧ i = .int .i64 k ∧ Bx w [.pointer (some ⟨w.heap.size, 0, none⟩)] wr)
        case atStart => exact ⟨_, 0, by omega, by omega, rfl, rfl, by (repeat (first | exact Bel.refl _ | assumption | refine Bel.step_alloc ?_ _ | refine Bel.step_drew ?_ | refine Bel.step_drewN ?_ _ | refine Bel.step_set ?_ (by simp <;> omega) _ | refine Bel.trans ?_ (by assumption))), fun v hv => by (simp only [List.mem_cons, List.not_mem_nil, or_false] at hv; subst hv; exact BoxW.new (Nat.le_refl _) W32_zero W32_zero _)⟩
        case round =>
          obtain ⟨s, k, hr, hkp, rfl, rfl, hbx⟩ := hrel
          have d3 := hbx.1.cell c3
          have d4 := hbx.1.cell c4
          by_cases hlt : (k : Int) < probes
          · go_wp2_with fail
            refine (ones_any _ _ _ (by omega) (by omega) (by decide) (by decide)).mono ?_
            rintro e w1 ⟨a, rfl, hb1, ha⟩
            have ha2 : a.size = 2 := by simpa using ha
            clear ha
            have e4 := hb1.cell d4
            go_wp2_with fail
            refine (hash_any ckey _ _ k9 (by simp only [ByteArray.size_append, show (({ data := #[112] } : ByteArray)).size = 1 from rfl]; omega)).mono ?_
            rintro e w2 ⟨x, y, rfl, hb2, hx, hy, -⟩
            have hB2 : Bel wr w2 := by (repeat (first | exact Bel.refl _ | assumption | refine Bel.step_alloc ?_ _ | refine Bel.step_drew ?_ | refine Bel.step_drewN ?_ _ | refine Bel.step_set ?_ (by simp <;> omega) _ | refine Bel.trans ?_ (by assumption)))
            go_wp2_with fail
            refine (behind_any p _ gen B E x y _ (h0.later (hbx.1.trans (by (repeat (first | exact Bel.refl _ | assumption | refine Bel.step_alloc ?_ _ | refine Bel.step_drew ?_ | refine Bel.step_drewN ?_ _ | refine Bel.step_set ?_ (by simp <;> omega) _ | refine Bel.trans ?_ (by assumption)))))) hE hI hx hy).mono ?_
            rintro e w3 ⟨s2, x2, y2, rfl, hb3, hx2, hy2⟩
            have hB3 : Bel wr w3 := by (repeat (first | exact Bel.refl _ | assumption | refine Bel.step_alloc ?_ _ | refine Bel.step_drew ?_ | refine Bel.step_drewN ?_ _ | refine Bel.step_set ?_ (by simp <;> omega) _ | refine Bel.trans ?_ (by assumption)))
            have hbx3 := hbx.later hB3
            obtain ⟨p10, x10, y10, E10, hp10, c100, c101, f100, f101, hx10, hy10⟩ := hbx3.2 (.pointer (some ⟨w.heap.size, 0, none⟩)) (by simp)
            simp only [Value.pointer.injEq, Option.some.injEq, Addr.mk.injEq, and_true] at E10
            subst E10
            have hlt3 : w.heap.size < w3.heap.size := World.block_lt_of_cell? w3 ⟨w.heap.size, 0, none⟩ c100
            go_wp2_with fail
            refine (below_any _ _ _ _ _).mono ?_
            rintro e w4 ⟨less, rfl, hb4, -⟩
            have hB4 : Bel w3 w4 := by (repeat (first | exact Bel.refl _ | assumption | refine Bel.step_alloc ?_ _ | refine Bel.step_drew ?_ | refine Bel.step_drewN ?_ _ | refine Bel.step_set ?_ (by simp <;> omega) _ | refine Bel.trans ?_ (by assumption)))
            have d100 := hB4.cell c100
            have d101 := hB4.cell c101
            have e100 := hB4.frozen c100 f100
            have e101 := hB4.frozen c101 f101
            have q0 : w4.cell? ⟨w3.heap.size, 0, none⟩ = some (.int .i64 x2) := hb4.cell (by simp)
            have q1 : w4.cell? ⟨w3.heap.size, 1, none⟩ = some (.int .i64 y2) := hb4.cell (by simp)
            have hbx4 := hbx3.later hB4
            cases hk0 : ((k : Int) == 0) <;> cases less
            all_goals
              go_wp2_with fail
              go_roundg (probes.toNat - (k + 1))
              case measure => omega
              case rel => first | exact ⟨_, k + 1, rfl, by omega, rfl, by go_num, hbx4⟩ | exact ⟨_, k + 1, rfl, by omega, rfl, by go_num, (hbx4.set (p := ⟨w.heap.size, 0, none⟩) hp10 hx2).set (p := ⟨w.heap.size, 1, none⟩) hp10 hy2⟩
          · go_wp2
            go_ret2
            exact ⟨_, _, rfl, hbx.1⟩
      · have hEs : (E.length : Int) = slots := by
          rcases hsl (fun h => by rcases h with h | h; exact ha2 h; exact ha4 h) with h | h
          · exact absurd h hE0
          · exact h
        have ha2' : (alg == 2) = false := by simpa using ha2
        have ha4' : (alg == 4) = false := by simpa using ha4
        obtain ⟨g, off, rfl, hids⟩ := EntsOff.ids (cap := cap) hcE hEl rfl
        have HEs : Hid ((E.length : Int) = slots) := hEs
        clear hEs hsl
        go_enter Tryz.func58, Tryz.ntmps58
        go_wp2_with fail
        refine (hash_any ckey _ _ k9 (by rw [ByteArray.size_append, show (({ data := #[107] } : ByteArray)).size = 1 from rfl]; omega)).mono ?_
        rintro e w1 ⟨x, y, rfl, hb1, hx, hy, -⟩
        have hBB : Bel w (w1.alloc (.cells #[.int .i64 x, .int .i64 y] 129)) := by (repeat (first | exact Bel.refl _ | assumption | refine Bel.step_alloc ?_ _ | refine Bel.step_drew ?_ | refine Bel.step_drewN ?_ _ | refine Bel.step_set ?_ (by simp <;> omega) _ | refine Bel.trans ?_ (by assumption)))
        have d8 := hBB.cell c8
        have d1 := hBB.cell c1
        have dids := fun j hj => hBB.cell (hids j hj)
        have q0 : (w1.alloc (.cells #[.int .i64 x, .int .i64 y] 129)).cell? ⟨w1.heap.size, 0, none⟩ = some (.int .i64 x) := by simp
        have q1 : (w1.alloc (.cells #[.int .i64 x, .int .i64 y] 129)).cell? ⟨w1.heap.size, 1, none⟩ = some (.int .i64 y) := by simp
        go_upto_region 23 with fail
        generalize (w1.alloc (.cells #[.int .i64 x, .int .i64 y] 129)) = w2 at *
        go_region_held3 (fun w' => Bel w2 w' ∧ w'.cell? ⟨p, 8, none⟩ = some (.slice (some ⟨g, off, none⟩) E.length cap) ∧ w'.cell? ⟨p, 1, none⟩ = some (.int .i64 slots) ∧ w'.cell? ⟨w1.heap.size, 0, none⟩ = some (.int .i64 x) ∧ w'.cell? ⟨w1.heap.size, 1, none⟩ = some (.int .i64 y) ∧ ∀ j, j < E.length → w'.cell? ⟨g, off + j * 3, none⟩ = some (.string (idAt E j))) ((refine keep5i ?_ d8 d1 q0 q1 dids; (repeat (first | exact Bel.refl _ | assumption | refine Bel.step_alloc ?_ _ | refine Bel.step_drew ?_ | refine Bel.step_drewN ?_ _ | refine Bel.step_set ?_ (by simp <;> omega) _ | refine Bel.trans ?_ (by assumption))))) ((go_at_call 96; refine (over_any _ _ _ _ hx hy (by omega) (by omega)).mono ?_; rintro e w3 ⟨r, rfl, hb3, hr1, hr2⟩; obtain ⟨m, rfl⟩ := Int.eq_ofNat_of_zero_le hr1; have hm : m < E.length := (by have := HEs.out; omega)))
        all_goals
          go_wp2
          go_ret2
          exact ⟨_, _, rfl, hBB.trans (by (repeat (first | exact Bel.refl _ | assumption | refine Bel.step_alloc ?_ _ | refine Bel.step_drew ?_ | refine Bel.step_drewN ?_ _ | refine Bel.step_set ?_ (by simp <;> omega) _ | refine Bel.trans ?_ (by assumption))))⟩

end Go.Proofs.YtgfildmmcbjpnabGreat

namespace Go.Proofs.YtgfildmmcbjpnabGreat
open Go.RowKit

theorem Tryz.uE : Tryz.prog.underlying 131 = some (.struct (Tryz.prog.fieldsOf 131)) := by kernel_rfl
theorem Tryz.sE : Tryz.prog.stoodInHeld 131 = false := by kernel_rfl
theorem Tryz.uW : Tryz.prog.underlying 129 = some (.struct (Tryz.prog.fieldsOf 129)) := by kernel_rfl
theorem Tryz.sW : Tryz.prog.stoodInHeld 129 = false := by kernel_rfl
theorem Tryz.gE : Tryz.prog.eqGuardType Tryz.prog.depth 131 = false := by kernel_rfl


theorem eql_entry (w : World) (a b : ByteArray) (x y u v : Int) : (binOp .eql 131 (.agg #[.string a, .int .i64 x, .int .i64 y]) (.agg #[.string b, .int .i64 u, .int .i64 v])).run Tryz.prog w = .ok (.bool (a.toList == b.toList && (x == u && y == v))) w := by
  rw [run_eql_struct, run_equalIn_struct w 9999 _ _ _ Tryz.uE Tryz.sE]
  simp [go_sem]
  by_cases h1 : a.toList = b.toList <;> by_cases h2 : x = u <;> by_cases h3 : y = v <;> simp [h1, h2, h3]

end Go.Proofs.YtgfildmmcbjpnabGreat

namespace Go.Proofs.YtgfildmmcbjpnabGreat
open Go.RowKit

def RStay (w : World) (la lb : Nat) (e : Ending) (w' : World) : Prop := ∃ n m : Nat, e = .returned (.tuple #[.int .i64 n, .int .i64 m]) ∧ Bel w w' ∧ n + m ≤ la ∧ n + m ≤ lb

set_option maxRecDepth 100000 in
set_option maxHeartbeats 3200000 in
theorem stay_any (va vb : Value) (A B : List EN) (w : World) (ha : EntsOff w va A) (hb : EntsOff w vb B) (hla : A.length ≤ 140000) (hlb : B.length ≤ 140000) :
    Calls Tryz.prog 87 #[va, vb] w (RStay w A.length B.length) := by
  obtain ⟨aoA, capA, rfl, hcA⟩ := ha
  obtain ⟨aoB, capB, rfl, hcB⟩ := hb
  go_enter Tryz.func87, Tryz.ntmps87
  go_wp2
  go_loopg [6] A.length (fun r n wr => Bel w wr ∧ ∃ k : Nat, r = A.length - k ∧ k ≤ A.length ∧ k ≤ B.length ∧ n = .int .i64 k)
  case atStart => exact ⟨Bel.refl _, 0, by omega, by omega, by omega, rfl⟩
  case round =>
    obtain ⟨hbr, k, hr, hkA, hkB, rfl⟩ := hrel
    go_upto_region 2 with fail
    go_cut [28] (fun v wc => Bel w wc ∧ ∃ x, v = .bool x ∧ (x = true → k < A.length ∧ k < B.length))
    case first =>
      by_cases h1 : (k : Int) < A.length
      · by_cases h2 : (k : Int) < B.length
        · obtain ⟨gA, offA, rfl, a0, a1, a2⟩ := hcA k (by omega)
          obtain ⟨gB, offB, rfl, b0, b1, b2⟩ := hcB k (by omega)
          have a0' := hbr.cell a0
          have a1' := hbr.cell a1
          have a2' := hbr.cell a2
          have b0' := hbr.cell b0
          have b1' := hbr.cell b1
          have b2' := hbr.cell b2
          clear hcA hcB a0 a1 a2 b0 b1 b2
          generalize A[k] = ea at *
          generalize B[k] = eb at *
          obtain ⟨ida, ha1, ha2⟩ := ea
          obtain ⟨idb, hb1, hb2⟩ := eb
          simp only at a0' a1' a2' b0' b1' b2'
          have heqE := eql_entry
          go_quiet (fail)
          go_wp2_with fail
          all_goals
            go_meet
            case rel => exact ⟨by (repeat (first | exact Bel.refl _ | assumption | refine Bel.step_alloc ?_ _ | refine Bel.step_drew ?_ | refine Bel.step_drewN ?_ _ | refine Bel.step_set ?_ (by simp <;> omega) _ | refine Bel.trans ?_ (by assumption))), _, rfl, fun _ => ⟨by omega, by omega⟩⟩
        · have h2' : decide ((k : Int) < B.length) = false := decide_eq_false h2
          go_quiet (fail)
          go_wp2_with fail
          go_meet
          case rel => exact ⟨by (repeat (first | exact Bel.refl _ | assumption | refine Bel.step_alloc ?_ _ | refine Bel.step_drew ?_ | refine Bel.step_drewN ?_ _ | refine Bel.step_set ?_ (by simp <;> omega) _ | refine Bel.trans ?_ (by assumption))), _, rfl, fun h => by cases h⟩
      · have h1' : decide ((k : Int) < A.length) = false := decide_eq_false h1
        go_quiet (fail)
        go_wp2_with fail
        go_meet
        case rel => exact ⟨by (repeat (first | exact Bel.refl _ | assumption | refine Bel.step_alloc ?_ _ | refine Bel.step_drew ?_ | refine Bel.step_drewN ?_ _ | refine Bel.step_set ?_ (by simp <;> omega) _ | refine Bel.trans ?_ (by assumption))), _, rfl, fun h => by cases h⟩
    case rest =>
      obtain ⟨hbc, x, rfl, hx⟩ := hcut
      cases x
      · clear hx
        go_wp2_with fail
        go_loopg [7] A.length (fun r m wr => Bel w wr ∧ ∃ q : Nat, r = A.length - q ∧ k + q ≤ A.length ∧ k + q ≤ B.length ∧ m = .int .i64 q)
        case atStart => exact ⟨hbc, 0, by omega, by omega, by omega, rfl⟩
        case round =>
          obtain ⟨hbq, q, hrq, hqA, hqB, rfl⟩ := hrel
          go_upto_region 5 with fail
          go_cut [63] (fun v wc => Bel w wc ∧ ∃ x, v = .bool x ∧ (x = true → k + q < A.length ∧ k + q < B.length))
          case first =>
            by_cases h1 : (q : Int) < A.length - (k : Int)
            · by_cases h2 : (q : Int) < B.length - (k : Int)
              · obtain ⟨gA, offA, rfl, a0, a1, a2⟩ := hcA (A.length - 1 - q) (by omega)
                obtain ⟨gB, offB, rfl, b0, b1, b2⟩ := hcB (B.length - 1 - q) (by omega)
                have a0' := hbq.cell a0
                have a1' := hbq.cell a1
                have a2' := hbq.cell a2
                have b0' := hbq.cell b0
                have b1' := hbq.cell b1
                have b2' := hbq.cell b2
                have hiA : A.length - 1 - q < A.length := by omega
                have hiB : B.length - 1 - q < B.length := by omega
                clear hcA hcB a0 a1 a2 b0 b1 b2
                generalize A[A.length - 1 - q] = ea at *
                generalize B[B.length - 1 - q] = eb at *
                obtain ⟨ida, ha1, ha2⟩ := ea
                obtain ⟨idb, hb1, hb2⟩ := eb
                simp only at a0' a1' a2' b0' b1' b2'
                have heqE := eql_entry
                go_quiet (fail)
                go_wp2_with fail
                all_goals
                  go_meet
                  case rel => exact ⟨by (repeat (first | exact Bel.refl _ | assumption | refine Bel.step_alloc ?_ _ | refine Bel.step_drew ?_ | refine Bel.step_drewN ?_ _ | refine Bel.step_set ?_ (by simp <;> omega) _ | refine Bel.trans ?_ (by assumption))), _, rfl, fun _ => ⟨by omega, by omega⟩⟩
              · have h2' : decide ((q : Int) < B.length - (k : Int)) = false := decide_eq_false h2
                go_quiet (fail)
                go_wp2_with fail
                go_meet
                case rel => exact ⟨by (repeat (first | exact Bel.refl _ | assumption | refine Bel.step_alloc ?_ _ | refine Bel.step_drew ?_ | refine Bel.step_drewN ?_ _ | refine Bel.step_set ?_ (by simp <;> omega) _ | refine Bel.trans ?_ (by assumption))), _, rfl, fun h => by cases h⟩
            · have h1' : decide ((q : Int) < A.length - (k : Int)) = false := decide_eq_false h1
              go_quiet (fail)
              go_wp2_with fail
              go_meet
              case rel => exact ⟨by (repeat (first | exact Bel.refl _ | assumption | refine Bel.step_alloc ?_ _ | refine Bel.step_drew ?_ | refine Bel.step_drewN ?_ _ | refine Bel.step_set ?_ (by simp <;> omega) _ | refine Bel.trans ?_ (by assumption))), _, rfl, fun h => by cases h⟩
          case rest =>
            obtain ⟨hbz, x, rfl, hx⟩ := hcut
            cases x
            · go_wp2
              go_ret2
              exact ⟨k, q, rfl, hbz, by omega, by omega⟩
            · have hx' : Hid (k + q < A.length ∧ k + q < B.length) := hx rfl
              clear hx
              go_wp2_with fail
              go_roundg (A.length - (q + 1))
              case measure => have := hx'.out; omega
              case rel => exact ⟨hbz, q + 1, rfl, by have := hx'.out; omega, by have := hx'.out; omega, by go_num⟩
      · have hx' : Hid (k < A.length ∧ k < B.length) := hx rfl
        clear hx
        go_wp2_with fail
        go_roundg (A.length - (k + 1))
        case measure => have := hx'.out; omega
        case rel => exact ⟨hbc, k + 1, rfl, by have := hx'.out; omega, by have := hx'.out; omega, by go_num⟩

end Go.Proofs.YtgfildmmcbjpnabGreat
