import Derived.Test.YtgfildmmcbjpnabGreatLAW
import Derived.Test.YtgfildmmcbjpnabGreatLAZ
import Derived.Test.YtgfildmmcbjpnabGreatLBC
import Derived.Test.YtgfildmmcbjpnabGreatLBE
import Derived.Test.YtgfildmmcbjpnabGreatLBF
import Derived.Test.YtgfildmmcbjpnabGreatLBG
import Derived.Test.YtgfildmmcbjpnabGreatLBH
import Derived.Deep.RegionLaw
namespace Go.Proofs.YtgfildmmcbjpnabGreat
open Go.RowKit

theorem Tryz.infoPair : (Tryz.prog.info? 58).map (fun i => (i.zero, i.size, i.bytes)) = some (some (.pointer none), 1, 8) := by kernel_rfl
theorem LAt.new (w : World) (cs : Array Value) (t : TypeId) (hc : cs.size ≤ 100) : LAt w.heap.size cs.toList (w.alloc (.cells cs t)) := by
  have h := World.ownsRow_lit (base := w.heap.size) (e := t) w cs cs.size (Nat.le_refl _) (by unfold maxLen; omega) (Nat.mul_one _).symm
  refine ⟨fun o u hu => ?_, fun o ho => World.ownsRow.frozenAt h o⟩
  have hl := (List.getElem?_eq_some_iff.1 hu).1
  exact (World.ownsRow.cellAt h o (by simpa using hl)).trans hu
/-- a service on both sides, made -/
def RPair (base p n : Nat) (vl : Value) (xs : List Value) (c : Cfg) (w : World) (e : Ending) (w' : World) : Prop := e = .returned (.bool true) ∧ ∃ (q a g cap : Nat) (w1 w2 : World), Bel w w1 ∧ w.heap.size ≤ q ∧ q < w1.heap.size ∧ w.heap.size ≤ a ∧ a < w1.heap.size ∧ a ≠ q ∧
  LAt a [.pointer (some ⟨q, 0, none⟩), .int .i64 c.alg, .int .i64 c.slots, .int .i64 c.points, .int .i64 c.probes, .string c.key, .int .i64 c.formats, .slice none 0 0, .pointer none, .slice none 0 0] w1 ∧ (∀ M : List Nat, q ∈ M → SvcAt M q c [] 0 w1) ∧
  But vl.ownBlock.toList w1 w2 ∧ w' = w2.setCell ⟨p, 6, none⟩ (sl g (n + 1) cap) ∧ w2.ownsRow base 58 1 (sl g (n + 1) cap) (n + 1) (xs ++ [.pointer (some ⟨a, 0, none⟩)]) ∧ (vl.ownBlock = some g ∨ w1.heap.size ≤ g)

set_option maxRecDepth 100000 in
set_option maxHeartbeats 1000000 in
theorem lmade_yes (base p n : Nat) (vl : Value) (xs : List Value) (c : Cfg) (w : World) (hc : c.OK) (hfit : c.Fit) (c0 : w.cell? ⟨p, 0, none⟩ = some (.int .i64 c.alg)) (c1 : w.cell? ⟨p, 1, none⟩ = some (.int .i64 c.slots)) (c2 : w.cell? ⟨p, 2, none⟩ = some (.int .i64 c.points)) (c3 : w.cell? ⟨p, 3, none⟩ = some (.int .i64 c.probes)) (c4 : w.cell? ⟨p, 4, none⟩ = some (.string c.key)) (c5 : w.cell? ⟨p, 5, none⟩ = some (.int .i64 c.formats))
    (c6 : w.cell? ⟨p, 6, none⟩ = some vl) (f6 : w.frozen? ⟨p, 6, none⟩ = false) (hrow : w.ownsRow base 58 1 vl n xs) (hn : n ≤ 200000) (hb : base ≤ w.heap.size) (hvp : vl.ownBlock ≠ some p) :
    Calls Tryz.prog 22 #[.pointer (some ⟨p, 0, none⟩)] w (RPair base p n vl xs c w) := by
  obtain ⟨i0, hi, hz0, hz1, hz2⟩ := info_parts Tryz.infoPair
  have hnw := fun wx => new_is c wx hc
  have hmy := fun wx => may_any c wx hfit
  have HR := Hid.mk hrow
  have HC := Hid.mk hc
  have hplt := World.block_lt_of_cell? w _ c6
  obtain ⟨alg, slots, points, probes, key, formats⟩ := c
  simp only [Cfg.cells] at *
  clear hrow hc hfit
  go_enter Tryz.func22, Tryz.ntmps22
  go_wp2_with fail
  refine (hnw _).mono ?_
  rintro e w1 ⟨q, rfl, hb1, hq1, hq2, hS⟩
  have HS := Hid.mk hS
  have k0 := hb1.cell c0
  have k1 := hb1.cell c1
  have k2 := hb1.cell c2
  have k3 := hb1.cell c3
  have k4 := hb1.cell c4
  have k5 := hb1.cell c5
  have k6 := hb1.cell c6
  have y6 := hb1.frozen c6 f6
  clear hS hnw
  go_wp2_with fail
  refine (hmy _).mono ?_
  rintro e w2 ⟨x, rfl, hb2, hx⟩
  obtain rfl : x = true := hx.2 HC.out
  have m0 := hb2.cell k0
  have m1 := hb2.cell k1
  have m2 := hb2.cell k2
  have m3 := hb2.cell k3
  have m4 := hb2.cell k4
  have m5 := hb2.cell k5
  have m6 := hb2.cell k6
  have n6 := hb2.frozen k6 y6
  have hb12 : Bel w w2 := hb1.trans hb2
  have HR2 := Hid.mk (own_later HR.out hb12)
  have hsz1 := hb1.size
  have hsz2 := hb2.size
  clear hmy hx k0 k1 k2 k3 k4 k5 k6 y6 c0 c1 c2 c3 c4 c5 c6 f6 HR
  have hpv : p ∉ vl.ownBlock.toList := fun h => hvp (by simpa using h)
  have hp2 : p < w2.heap.size := World.block_lt_of_cell? w2 _ m6
  have HX : ∀ (wd : World), Bel ((w2.alloc (.cells #[.pointer (some ⟨q, 0, none⟩), .int .i64 alg, .int .i64 slots, .int .i64 points, .int .i64 probes, .string key, .int .i64 formats, .slice none 0 0, .pointer none, .slice none 0 0] 63)).alloc (.cells #[.pointer (some ⟨w2.heap.size, 0, none⟩)] 58)) wd → ∀ g cap w3, But vl.ownBlock.toList wd w3 → w3.ownsRow base 58 1 (.slice (some ⟨g, 0, none⟩) (n + 1) cap) (n + 1) (xs ++ [.pointer (some ⟨w2.heap.size, 0, none⟩)]) → (vl.ownBlock = some g ∨ g = wd.heap.size) →
      Hid (RPair base p n vl xs ⟨alg, slots, points, probes, key, formats⟩ w (.returned (.bool true)) (w3.setCell ⟨p, 6, none⟩ (.slice (some ⟨g, 0, none⟩) (n + 1) cap))) := fun wd bd g cap w3 b3 h3 hat => by
    have bA := Bel.step_alloc (Bel.step_alloc (Bel.refl w2) (.cells #[.pointer (some ⟨q, 0, none⟩), .int .i64 alg, .int .i64 slots, .int .i64 points, .int .i64 probes, .string key, .int .i64 formats, .slice none 0 0, .pointer none, .slice none 0 0] 63)) (.cells #[.pointer (some ⟨w2.heap.size, 0, none⟩)] 58)
    have hsz := bd.size
    simp only [World.alloc, Array.size_push] at hsz
    refine ⟨rfl, q, w2.heap.size, g, cap, wd, w3, hb12.trans (bA.trans bd), hq1, by omega, by omega, by omega, by omega, ((LAt.new w2 _ _ (by simp)).later (Bel.step_alloc (Bel.refl _) _)).later bd, fun M hM => (HS.out M hM).later (hb2.trans (bA.trans bd)), b3, rfl, h3, hat.imp id (fun e => by omega)⟩
  go_wp2_with fail
  go_region_law
    ((refine step_append_lies _ rfl (.tmp 37) (.tmp 45) 39 rfl base 58 i0 (.pointer none) 1 8 Tryz.underlying39 hi hz0 hz1 hz2 rfl (by decide) vl n xs (by simp [Act.eval]) (World.ownsRow.alloc (World.ownsRow.alloc HR2.out _) _) ⟨w2.heap.size + 1, 0, none⟩ 1 1 [.pointer (some ⟨w2.heap.size, 0, none⟩)] (by simp [Act.eval]) rfl (one_new _ _ _ _ (by simp)) (by intro u hu; simp at hu; subst hu; rfl) (by decide) (by unfold maxLen; omega) (by omega) (by simp; omega) _ rfl ?_
      intro g cap w3 hown3 hgrow3 hat3 hlt3
      have b3 := lgrown_but hgrow3
      have b23 : But vl.ownBlock.toList w2 w3 := by (repeat (first | exact But.refl _ _ | assumption | refine But.drew ?_ | refine But.drewN ?_ _ | refine But.alloc ?_ _ | refine But.set ?_ (by simp) _ | refine But.trans ?_ (by assumption) | refine But.step ?_ (by assumption)))
      have x6 := b23.cell m6 hpv
      have y6 := b23.frozen m6 hpv n6
      have H3 := Hid.mk hown3
      have HAT := Hid.mk hat3
      clear hown3 hgrow3 hat3))
  all_goals
    have HR := HX _ (by (repeat (first | exact Bel.refl _ | assumption | refine Bel.step_alloc ?_ _ | refine Bel.step_drew ?_ | refine Bel.step_drewN ?_ _ | refine Bel.step_set ?_ (by simp <;> omega) _ | refine Bel.trans ?_ (by assumption)))) _ _ _ b3 H3.out HAT.out
    clear HX H3 HAT
    go_wp2
    go_ret
    exact HR.out

set_option maxRecDepth 100000 in
set_option maxHeartbeats 400000 in
theorem lmade_no (p : Nat) (c : Cfg) (w : World) (hc : ¬ c.OK) (hfit : c.Fit) (c0 : w.cell? ⟨p, 0, none⟩ = some (.int .i64 c.alg)) (c1 : w.cell? ⟨p, 1, none⟩ = some (.int .i64 c.slots)) (c2 : w.cell? ⟨p, 2, none⟩ = some (.int .i64 c.points)) (c3 : w.cell? ⟨p, 3, none⟩ = some (.int .i64 c.probes)) (c4 : w.cell? ⟨p, 4, none⟩ = some (.string c.key)) (c5 : w.cell? ⟨p, 5, none⟩ = some (.int .i64 c.formats)) :
    Calls Tryz.prog 22 #[.pointer (some ⟨p, 0, none⟩)] w fun e w' => e = .returned (.bool true) ∧ Bel w w' := by
  have hnw := fun wx => new_no c wx hc
  have hmy := fun wx => may_any c wx hfit
  have HC := Hid.mk hc
  obtain ⟨alg, slots, points, probes, key, formats⟩ := c
  simp only [Cfg.cells] at *
  clear hc hfit
  go_enter Tryz.func22, Tryz.ntmps22
  go_wp2_with fail
  refine (hnw _).mono ?_
  rintro e w1 ⟨rfl, hb1⟩
  have k0 := hb1.cell c0
  have k1 := hb1.cell c1
  have k2 := hb1.cell c2
  have k3 := hb1.cell c3
  have k4 := hb1.cell c4
  have k5 := hb1.cell c5
  clear hnw c0 c1 c2 c3 c4 c5
  go_wp2_with fail
  refine (hmy _).mono ?_
  rintro e w2 ⟨x, rfl, hb2, hx⟩
  have hbw : Bel w w2 := hb1.trans hb2
  cases x
  · clear hmy hx
    go_wp2
    go_ret
    exact ⟨rfl, hbw⟩
  · exact absurd (hx.1 rfl) HC.out
/-- New, on both sides -/
def RMade (W0 : Base) (p s : Nat) (e : Ending) (w' : World) : Prop := e = .returned (.bool true) ∧ ∃ x, WInv W0 s x w' ∧ x.p = p
theorem wmade_is (W0 : Base) (s : Nat) (x : WG) (w : World) (h : WInv W0 s x w) (hs : s ≤ 150000) : Calls Tryz.prog 22 #[.pointer (some ⟨x.p, 0, none⟩)] w (RMade W0 x.p (s + 1)) := by
  by_cases hc : x.c.OK
  · have hvp : x.vl.ownBlock ≠ some x.p := fun e => by
      have a1 : 1 ≤ x.vl.ownBlock.toList.count x.p := lcount_mem.1 (by simp [e])
      have a2 := WG.count x x.p
      have a3 := lnodup_le h.2.2.1 x.p
      have a4 : 1 ≤ [x.p].count x.p := lcount_mem.1 (by simp)
      omega
    refine (lmade_yes W0.heap.size x.p x.prs.length x.vl _ x.c w hc h.2.2.2.2.2.1 (h.1.1 0 _ rfl) (h.1.1 1 _ rfl) (h.1.1 2 _ rfl) (h.1.1 3 _ rfl) (h.1.1 4 _ rfl) (h.1.1 5 _ rfl) (h.1.1 6 _ rfl) (h.1.2 6 (by simp [WG.cells])) h.2.2.2.2.2.2.1 (by have := h.2.2.2.2.2.2.2.2.2.2.2.1.1; omega) h.2.1.size hvp).mono ?_
    rintro e w' ⟨rfl, q, a, g, cap, w1, w2, b1, hq1, hq2, ha1, ha2, haq, hL, hS, hb, rfl, hrow, hg⟩
    refine ⟨rfl, _, h.pair b1 ⟨a, q, x.c, [], 0, .slice none 0 0, .pointer none, .slice none 0 0, []⟩ ⟨hL, hS _ (by simp [PrG.blocks]), Or.inl ⟨rfl, rfl, rfl⟩, Good.nil, hc, ⟨by simp, by simp, fun _ => rfl⟩, Or.inl ⟨rfl, rfl⟩, World.ownsRow_nil _ _ _ _, by simp, fun y hy => by cases hy⟩ (by simp [PrG.blocks, Value.ownBlock, haq]) (fun j hj => ?_) (by simp) hb hrow hg, rfl⟩
    simp [PrG.blocks, Value.ownBlock] at hj
    rcases hj with rfl | rfl
    · exact ⟨ha1, ha2⟩
    · exact ⟨hq1, hq2⟩
  · refine (lmade_no x.p x.c w hc h.2.2.2.2.2.1 (h.1.1 0 _ rfl) (h.1.1 1 _ rfl) (h.1.1 2 _ rfl) (h.1.1 3 _ rfl) (h.1.1 4 _ rfl) (h.1.1 5 _ rfl)).mono ?_
    rintro e w' ⟨rfl, b⟩
    exact ⟨rfl, x, (h.later b).up (by omega), rfl⟩

end Go.Proofs.YtgfildmmcbjpnabGreat

namespace Go.Proofs.YtgfildmmcbjpnabGreat
open Go.RowKit

theorem lowner_is (W0 : Base) (s : Nat) (x : WG) (k A B C : Int) (S : ByteArray) (w : World) (h : WInv W0 s x w) (hs : s ≤ 150000) (hA : I64 A) (hB : I64 B) (hC : I64 C) (hS : S.size ≤ 1099511627776) (hk : k = 1 ∨ k = 2 ∨ k = 18 ∨ k = 19 ∨ k = 20 ∨ k = 21 ∨ k = 25) :
    Calls Tryz.prog 21 #[.pointer (some ⟨x.p, 0, none⟩), opv k A B C S] w (ROwn W0 x.p (s + 1)) := by
  rcases hk with rfl | rfl | rfl | rfl | rfl | rfl | rfl
  · exact owner_num W0 s x A B C S w h hA hB
  · exact owner_key W0 s x A B C S w h (by unfold maxLen; omega)
  · exact owner_frame W0 s x A B C S w h hs hS
  · exact owner_bend W0 s x A B C S w h hs hA hB hC
  · exact owner_cut W0 s x A B C S w h hs hA hB
  · exact owner_seal W0 s x A B C S w h hs hA
  · exact owner_cell W0 s x A B C S w h hs hA hB
/-- the law's world goes on; a bool was answered -/
def RGo (W0 : Base) (p s : Nat) (e : Ending) (w' : World) : Prop := ∃ b : Bool, e = .returned (.bool b) ∧ ∃ x, WInv W0 s x w' ∧ x.p = p
/-- the law's world goes on, its services the same -/
def ROn2 (W0 : Base) (s : Nat) (x : WG) (w : World) (e : Ending) (w' : World) : Prop := e = .returned (.tuple #[]) ∧ (∃ x', WInv W0 s x' w' ∧ x'.p = x.p ∧ x'.prs = x.prs) ∧ ∀ (a : Addr) (v : Value), a.block ∉ x.M → w.cell? a = some v → w'.cell? a = some v
theorem wput_same (W0 : Base) (s : Nat) (x : WG) (S : ByteArray) (w : World) (h : WInv W0 s x w) (hs : s ≤ 150000) (hS : S.size ≤ 1099511627776) :
    Calls Tryz.prog 31 #[.pointer (some ⟨x.p, 0, none⟩), .string S] w (ROn2 W0 (s + 1) x w) := by
  have hvp : x.vh.ownBlock ≠ some x.p := fun e => by
    have a1 : 1 ≤ x.vh.ownBlock.toList.count x.p := lcount_mem.1 (by simp [e])
    have a2 := WG.count x x.p
    have a3 := lnodup_le h.2.2.1 x.p
    have a4 := one_count x.p
    omega
  refine (lput_is W0.heap.size x.p x.H.length x.vh (x.H.map Value.string) S w (h.1.1 7 _ rfl) (h.1.2 7 (by simp [WG.cells])) h.2.2.2.2.2.2.2.1 (by have := h.2.2.2.2.2.2.2.2.2.2.2.1.2.1; omega) h.2.1.size hvp).mono ?_
  rintro e w' ⟨rfl, g, cap, w1, hb, rfl, hrow, hg⟩
  refine ⟨rfl, ⟨_, h.put hb hrow hg hS, rfl, rfl⟩, fun a v ha hc => ?_⟩
  have hvM : a.block ∉ x.vh.ownBlock.toList := fun e => ha (h.2.2.2.1 _ (lcount_mem.2 (by have := WG.count x a.block; have := lcount_mem.1 e; omega)))
  have hpM : a.block ≠ x.p := fun e => ha (e ▸ h.2.2.2.1 _ (by simp [WG.blocks]))
  rw [set_other (Or.inl (Ne.symm hpM))]
  exact hb.cell hc hvM
theorem StateAt.unmask {M : List Nat} {w : World} {p : Nat} {c : Cfg} {gen : Int} {B : List BK} {E : List EN} (h : StateAt (mask M w) p c gen B E) : StateAt w p c gen B E := by
  obtain ⟨vB, vE, ⟨h0, h1, h2, h3, h4, h5⟩, h6, h7, h8, h9, h10⟩ := h
  exact ⟨vB, vE, ⟨(mask_cell.1 h0).1, (mask_cell.1 h1).1, (mask_cell.1 h2).1, (mask_cell.1 h3).1, (mask_cell.1 h4).1, (mask_cell.1 h5).1⟩, (mask_cell.1 h6).1, (mask_cell.1 h7).1, (mask_cell.1 h8).1, RowAt.unmask h9, RowAt.unmask h10⟩
theorem HasAt.unmask {M : List Nat} {w : World} {v : Value} {gen : Int} (h : HasAt (mask M w) v gen) : HasAt w v gen := by
  rcases h with h | ⟨q, c, B, E, hv, hs, ho⟩
  · exact Or.inl h
  · exact Or.inr ⟨q, c, B, E, hv, hs.unmask, ho⟩
theorem HasE.unmask {M : List Nat} {w : World} {v : Value} {c : Cfg} {B : List BK} {gen : Int} (h : HasE (mask M w) v c B gen) : HasE w v c B gen := by
  rcases h with h | ⟨q, E, hv, hs, ho⟩
  · exact Or.inl h
  · exact Or.inr ⟨q, E, hv, hs.unmask, ho⟩
theorem W32.toI64 {a : Int} (h : W32 a) : I64 a := ⟨by have := h.1; omega, by have := h.2; omega⟩
/-- what the law's service k is, read off -/
theorem WInv.pair_at {W0 : Base} {s : Nat} {x : WG} {w : World} (h : WInv W0 s x w) (k : Nat) (hk : k < x.prs.length) : (x.prs[k]).At W0.heap.size x.M w := (h.2.2.2.2.2.2.2.2.2.2.2.2.2 _ (List.getElem_mem hk)).1
theorem WInv.pick {W0 : Base} {s : Nat} {x : WG} {w : World} (h : WInv W0 s x w) (hn : 0 < x.prs.length) : ∃ g cap, x.vl = .slice (some ⟨g, 0, none⟩) x.prs.length cap ∧ ∀ j (hj : j < x.prs.length), w.cell? ⟨g, j, none⟩ = some (.pointer (some ⟨(x.prs[j]).a, 0, none⟩)) := by
  obtain ⟨g, cap, hv, -, -, hc⟩ := own_form0 h.2.2.2.2.2.2.1 hn
  exact ⟨g, cap, hv, fun j hj => (hc j hj).trans (by simp [hj])⟩

end Go.Proofs.YtgfildmmcbjpnabGreat

namespace Go.Proofs.YtgfildmmcbjpnabGreat
open Go.RowKit

theorem Tryz.infoStrS : (Tryz.prog.info? 9).map (fun i => (i.zero, i.size, i.bytes)) = some (some (.string ByteArray.empty), 1, 16) := by kernel_rfl
/-- texts, from a block's head on -/
def TextsAt (w : World) (v : Value) (l : List ByteArray) : Prop := RowAt w v l.length (l.map Value.string)
theorem TextsAt.later {a w : World} {v : Value} {l : List ByteArray} (h : TextsAt a v l) (k : Bel a w) : TextsAt w v l := RowAt.later h k
theorem TextsAt.form {w : World} {v : Value} {l : List ByteArray} (h : TextsAt w v l) : ∃ ao cap, v = .slice ao l.length cap ∧ l.length ≤ cap ∧ (l = [] ∨ ∃ g, ao = some ⟨g, 0, none⟩ ∧ g < w.heap.size ∧ ∀ j (hj : j < l.length), w.cell? ⟨g, j, none⟩ = some (.string l[j])) := by
  rcases h with ⟨h1, h2, _⟩ | ⟨g, cap, hv, hn, hg, hc⟩
  · have := List.eq_nil_of_length_eq_zero h2
    subst this
    exact ⟨none, 0, h1, by simp, Or.inl rfl⟩
  · exact ⟨_, cap, hv, hn, Or.inr ⟨g, rfl, hg, fun j hj => hc j _ (by simp [hj])⟩⟩
def RTextsS (w : World) (n : Nat) (e : Ending) (w' : World) : Prop := ∃ (v : Value) (l : List ByteArray), e = .returned v ∧ Bel w w' ∧ l.length = n ∧ TextsAt w' v l

end Go.Proofs.YtgfildmmcbjpnabGreat

namespace Go.Proofs.YtgfildmmcbjpnabGreat
open Go.RowKit

def RTextsE (w : World) (L : List ByteArray) (e : Ending) (w' : World) : Prop := ∃ v : Value, e = .returned v ∧ Bel w w' ∧ TextsAt w' v L
theorem TabEq.names {c : Cfg} {B : List BK} {E : List EN} (h : TabEq c B E) : E.map (fun x => x.1) = namesF B (mkF c B) := by
  have := congrArg (List.map (fun p : NI => p.2)) h
  rw [List.map_map, List.map_map] at this
  exact this

set_option maxRecDepth 100000 in
set_option maxHeartbeats 1600000 in
theorem drslots_is (p : Nat) (c : Cfg) (gen : Int) (B : List BK) (E : List EN) (w : World) (h : StateAt w p c gen B E) (hE : E.length ≤ 140000) :
    Calls Tryz.prog 56 #[.pointer (some ⟨p, 0, none⟩)] w (RTextsE w (E.map fun x => x.1)) := by
  obtain ⟨R, hR0⟩ : ∃ R, R = E.map fun x => x.1 := ⟨_, rfl⟩
  rw [← hR0]
  have HR := Hid.mk hR0
  clear hR0
  obtain ⟨i0, hi, hz0, hz1, hz2⟩ := info_parts Tryz.infoStrS
  obtain ⟨vB, vE, _, _, _, c8, _, hpE⟩ := h
  have hpw : p < w.heap.size := World.block_lt_of_cell? w ⟨p, 8, none⟩ c8
  obtain ⟨ao, cap, rfl, hc⟩ := hpE.off
  go_enter Tryz.func56, Tryz.ntmps56
  go_wp2
  go_loopg [3, 4] E.length (fun r v i wr => ∃ (k : Nat) (L : List ByteArray), r = E.length - k ∧ k ≤ E.length ∧ i = .int .i64 k ∧ L.length = k ∧ L = (E.take k).map (fun x => x.1) ∧ wr.ownsRow w.heap.size 9 1 v k (L.map Value.string) ∧ Bel w wr)
  case atStart => exact ⟨0, [], by omega, by omega, rfl, rfl, rfl, World.ownsRow_nil _ _ _ _, Bel.refl _⟩
  case round =>
    obtain ⟨k, L, hr, hk, rfl, hL, hLe, hown, hb⟩ := hrel
    have HLE := Hid.mk hLe
    clear hLe
    have d8 := hb.cell c8
    by_cases hlt : k < E.length
    · obtain ⟨g, off, rfl, q0, -, -⟩ := hc k hlt
      have r0 := hb.cell q0
      clear hc q0
      have HLN : Hid (L ++ [E[k].1] = (E.take (k + 1)).map (fun x => x.1)) := by
        show L ++ _ = _
        rw [List.take_succ_eq_append_getElem hlt, List.map_append, ← HLE.out]
        rfl
      generalize E[k] = en at *
      obtain ⟨id, ehi, elo⟩ := en
      simp only at r0 HLN
      go_wp2_with (first | (at_builtin; refine wpList_append_own _ rfl _ _ 36 rfl w.heap.size 9 i0 (.string ByteArray.empty) 1 16 Tryz.underlying36 hi hz0 hz1 hz2 rfl (by decide) _ k (L.map Value.string) rfl ?o1 ⟨wr.heap.size, 0, none⟩ 1 1 [.string id] rfl rfl ?c1 ?c2 ?c3 ?c4 ?c5 ?_))
      case o1 => exact hown.alloc _
      case c1 => exact cell_one_new _ _ _
      case c2 => intro u hu; simp at hu; subst hu; rfl
      case c3 => unfold maxLen; omega
      case c4 => omega
      case c5 => have := hb.size; simp; omega
      intro v' w6 hown' hgrow _
      have hb6 : Bel w w6 := (hb.step_alloc _).grown hgrow (fun g hg => (hown.lt g hg).1)
      clear hgrow
      go_wp2_with fail
      go_roundg (E.length - (k + 1))
      case measure => omega
      case rel => exact ⟨k + 1, L ++ [id], rfl, by omega, by go_num, by simp [hL], HLN.out, by simpa using hown', hb6⟩
    · have hk' : k = E.length := by omega
      have hown' := RowAt.of_owns hown
      rw [← hL] at hown'
      have hR : TextsAt wr _ L := (by simpa [TextsAt] using hown')
      have HRL : Hid (L = R) := by
        show L = R
        rw [HLE.out, HR.out, hk', List.take_length]
      rw [HRL.out] at hR
      have HT := Hid.mk hR
      clear hR
      go_wp2
      go_ret
      exact ⟨_, rfl, hb, HT.out⟩

end Go.Proofs.YtgfildmmcbjpnabGreat

namespace Go.Proofs.YtgfildmmcbjpnabGreat
open Go.RowKit

theorem lmkF_len (c : Cfg) (B : List BK) (hc : c.OK) (hB : PoolOK B) : (mkF c B).length ≤ 65536 := by
  have hall := fun b hb => (hB.2 b hb).2.2
  have hs2 : c.slots ≤ 211 := hc.2.2.2.1
  have hl : ∀ n (L : List EI), (sortTo L n).length ≤ n := by
    intro n L
    induction n with
    | zero => simp [sortTo]
    | succ n ih => rw [sortTo]; split
                   · rw [insE_len]; omega
                   · omega
  have h8 := hB.1
  rw [mkF]
  split
  · simp
  split
  · rw [List.length_map, maglevF, fillTo_len, List.length_replicate]; omega
  split
  · have h1 := ptsTo_len c.key 114 c.points B hc.2.2.2.2.2.2.1 hall B.length
    have h2 := hl (ptsTo c.key 114 c.points B B.length).length (ptsTo c.key 114 c.points B B.length)
    rw [pointsF]; omega
  split
  · simp; omega
  split
  · have h1 := ptsTo_len c.key 109 1 B (by omega) hall B.length
    have h2 := hl (ptsTo c.key 109 1 B B.length).length (ptsTo c.key 109 1 B B.length)
    rw [pointsF]; omega
  · simp

/-- the document's first example -/
def lcfgA : Cfg := ⟨1, 7, 1, 1, ⟨#[48, 49, 50, 51, 52, 53, 54, 55, 56, 57, 97, 98, 99, 100, 101, 102]⟩, 3⟩
def lnA : ByteArray := ⟨#[97]⟩
def lnB : ByteArray := ⟨#[98]⟩
theorem lcfgA_ok : lcfgA.OK := by
  refine ⟨by decide, by decide, by decide, by decide, ?_, by decide, by decide, by decide, by decide, by decide, by decide, by decide⟩
  intro d h1 h2
  have hd : d < 7 := by simp only [lcfgA] at h2; omega
  rcases (show d = 2 ∨ d = 3 ∨ d = 4 ∨ d = 5 ∨ d = 6 by omega) with rfl | rfl | rfl | rfl | rfl <;> decide
theorem lalive_mag : maglevF lcfgA [(lnA, 1), (lnB, 1)] = [0, 1, 0, 0, 0, 1, 1] := by decide +kernel
theorem lalive_mk : mkF lcfgA [(lnA, 1), (lnB, 1)] = [(0, 0), (0, 1), (0, 0), (0, 0), (0, 0), (0, 1), (0, 1)] := by
  rw [mkF, if_neg (by decide), if_pos (show lcfgA.alg = 1 from rfl), lalive_mag]; rfl
theorem lalive_names : namesF [(lnA, 1), (lnB, 1)] (mkF lcfgA [(lnA, 1), (lnB, 1)]) = [lnA, lnB, lnA, lnA, lnA, lnB, lnB] := by rw [lalive_mk]; rfl
theorem lalive_add1 : addE [] lnB 1 = 0 ∧ addB [] lnB 1 = [(lnB, 1)] := ⟨by decide +kernel, rfl⟩
theorem lalive_add2 : addE [(lnB, 1)] lnA 1 = 0 ∧ addB [(lnB, 1)] lnA 1 = [(lnA, 1), (lnB, 1)] := by
  have he : addE [(lnB, 1)] lnA 1 = 0 := by decide +kernel
  refine ⟨he, ?_⟩
  unfold addB
  rw [if_pos he]
  have hl : less lnA lnB = true := by decide +kernel
  simp [ins, hl]

set_option maxRecDepth 100000 in
set_option maxHeartbeats 1600000 in
theorem lalive_is (w : World) : Calls Tryz.prog 7 #[] w (RBool w fun x => x = true) := by
  have hnw := fun wx => new_is lcfgA wx lcfgA_ok
  rw [show lcfgA.cells = #[.int .i64 1, .int .i64 7, .int .i64 1, .int .i64 1, .string ⟨#[48, 49, 50, 51, 52, 53, 54, 55, 56, 57, 97, 98, 99, 100, 101, 102]⟩, .int .i64 3] from rfl] at hnw
  go_enter Tryz.func7, Tryz.ntmps7
  go_wp2_with fail
  refine (hnw _).mono ?_
  rintro e w1 ⟨q, rfl, hb1, hq1, hq2, hS1⟩
  have hS1 := hS1 [q] (by simp)
  have hb01 : Bel w w1 := (Bel.step_alloc (Bel.refl w) _).trans hb1
  have hqw : w.heap.size ≤ q := by simp at hq1; omega
  have ha1 := add_is [q] q lcfgA [] 0 lnB 1 w1 hS1 (by simpa using hq2) lcfgA_ok Good.nil (by omega) (by omega)
  rw [lalive_add1.1, lalive_add1.2] at ha1
  simp only [if_true, lnB] at ha1
  clear hnw
  go_wp2_with fail
  refine ha1.mono ?_
  rintro e w2 ⟨rfl, hbt2, hS2⟩
  have hG1 : Good [(lnB, (1 : Int))] := by have := Good.nil.add lnB 1; rwa [lalive_add1.2] at this
  have ha2 := add_is [q] q lcfgA [(lnB, 1)] (0 + 1) lnA 1 w2 hS2 (by simpa using hS2.lt) lcfgA_ok hG1 (by omega) (by omega)
  rw [lalive_add2.1, lalive_add2.2] at ha2
  simp only [if_true] at ha2
  rw [show lnA = ⟨#[97]⟩ from rfl] at ha2
  clear ha1
  go_wp2_with fail
  refine ha2.mono ?_
  rintro e w3 ⟨rfl, hbt3, hS3⟩
  have hG2 : Good [(lnA, (1 : Int)), (lnB, 1)] := by have := hG1.add lnA 1; rwa [lalive_add2.2] at this
  have hsl := slots_is [q] q lcfgA [(lnA, 1), (lnB, 1)] (0 + 1 + 1) w3 hS3 (lmkF_len lcfgA _ lcfgA_ok hG2.1)
  rw [lalive_names] at hsl
  have hb03 : Bel w w3 := But.belTo (But.belTo hb01 hbt2 (by simpa using hqw)) hbt3 (by simpa using hqw)
  clear ha2 hS1 hS2 hS3 hG1 hG2 hbt2 hbt3
  go_wp2_with fail
  refine hsl.mono ?_
  rintro e w4 ⟨vL, rfl, hb4, hO, -⟩
  obtain ⟨g, cap, hv, hg1, hg2⟩ := World.ownsRow.form hO (by simp)
  subst hv
  have hcl := fun j u (hj : ([lnA, lnB, lnA, lnA, lnA, lnB, lnB].map Value.string)[j]? = some u) => World.ownsRow.cells hO (g := g) rfl j u hj
  have hadd : ∀ j, (⟨g, 0, none⟩ : Addr).add j = ⟨g, j, none⟩ := fun j => by unfold Addr.add; split <;> simp_all
  have y0 := hcl 0 _ rfl
  have y1 := hcl 1 _ rfl
  have y2 := hcl 2 _ rfl
  have y3 := hcl 3 _ rfl
  have y4 := hcl 4 _ rfl
  have y5 := hcl 5 _ rfl
  have y6 := hcl 6 _ rfl
  rw [hadd] at y0 y1 y2 y3 y4 y5 y6
  simp only [lnA, lnB] at y0 y1 y2 y3 y4 y5 y6
  clear hcl hadd hsl hO
  go_wp2
  refine wp_loop_rounds 8 ?_
  rw [rounds_succ]
  go_wp2
  rw [rounds_succ]
  go_wp2
  rw [rounds_succ]
  go_wp2
  rw [rounds_succ]
  go_wp2
  rw [rounds_succ]
  go_wp2
  rw [rounds_succ]
  go_wp2
  rw [rounds_succ]
  go_wp2
  rw [rounds_succ]
  go_wp2
  go_ret
  exact ⟨_, rfl, hb03.trans hb4, by decide +kernel⟩

end Go.Proofs.YtgfildmmcbjpnabGreat
