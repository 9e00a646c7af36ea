import Derived.Test.YtgfildmmcbjpnabGreatLAM
import Derived.Test.YtgfildmmcbjpnabGreatLAP
import Derived.Test.YtgfildmmcbjpnabGreatLAR
import Derived.Test.YtgfildmmcbjpnabGreatLBE
import Derived.Laws.CopyOwn
namespace Go.Proofs.YtgfildmmcbjpnabGreat
open Go.RowKit

theorem Tryz.infoStrs : (Tryz.prog.info? 36).map (fun i => (i.zero, i.size, i.bytes)) = some (some (.slice none 0 0), 1, 24) := by kernel_rfl
theorem slice_cap (wx : World) (ao : Option Addr) (L cap : Nat) :
    (Instr.slice 36 (.slice ao L cap) none (some (.int .i64 cap)) none).run Tryz.prog wx = .ok (.slice ao cap cap) wx := by
  rw [run_slice_h (P := Tryz.prog) wx 36 ao L cap (by kernel_rfl) .i64 _ (by omega) (by omega)]
  have hs : (sizeOf (Tryz.prog.elem 36)).run Tryz.prog wx = .ok 1 wx := by kernel_rfl
  rw [hs]
  have hm : ao.map (·.add 0) = ao := by cases ao <;> rfl
  simp only [Result.andThen, sliced, Int.toNat_natCast, Nat.zero_mul, hm, ite_self, Nat.sub_zero]
/-- a row of texts, copied into another -/
theorem row_copied {w : World} {base g n : Nat} {cur : Array Value} {e : TypeId} {T : List ByteArray} (hg : w.heap[g]? = some (.cells cur e (0, 0))) (hb : base ≤ g) (hn : T.length = n) (hm : n ≤ maxLen) :
    (w.setRow g (T.map Value.string).toArray).ownsRow base e 1 (sl g n n) n (T.map Value.string) := by
  refine ⟨by simp [hn], Or.inr ⟨g, n, (T.map Value.string).toArray, rfl, hb, setRow_heap w g _ _ e _ hg, Nat.le_refl _, hm, by simp [hn], ?_⟩⟩
  rw [List.take_of_length_le (by simp [hn])]
theorem copied_list {cur : Array Value} {T : List ByteArray} (hc : cur.size = T.length) : cur.toList.take 0 ++ T.map Value.string ++ cur.toList.drop (0 + (T.map Value.string).length) = T.map Value.string := by
  rw [List.drop_of_length_le (by simp; omega)]
  simp
def RLKeep (base p n : Nat) (va vb : Value) (xs ys L : List Value) (g1 : Nat) (T : List ByteArray) (w : World) (e : Ending) (w' : World) : Prop := e = .returned (.tuple #[]) ∧ ∃ (g2 ga ca gb cb : Nat) (w1 : World), Bel w w1 ∧ w.heap.size ≤ g2 ∧ g2 < w1.heap.size ∧ w1.ownsRow base 9 1 (sl g2 T.length T.length) T.length (T.map Value.string) ∧
  But (p :: (va.ownBlock.toList ++ vb.ownBlock.toList)) w1 w' ∧ LAt p ((L.set 8 (sl ga (n + 1) ca)).set 9 (sl gb (n + 1) cb)) w' ∧
  w'.ownsRow base 36 1 (sl ga (n + 1) ca) (n + 1) (xs ++ [sl g1 T.length T.length]) ∧ w'.ownsRow base 36 1 (sl gb (n + 1) cb) (n + 1) (ys ++ [sl g2 T.length T.length]) ∧
  (va.ownBlock = some ga ∨ w1.heap.size ≤ ga) ∧ (vb.ownBlock = some gb ∨ w1.heap.size ≤ gb) ∧ ga ≠ gb

set_option maxRecDepth 100000 in
set_option maxHeartbeats 1000000 in
theorem lkeep_is (base p n : Nat) (va vb : Value) (xs ys L : List Value) (g1 : Nat) (T : List ByteArray) (w : World) (hL : LAt p L w) (hL8 : L[8]? = some va) (hL9 : L[9]? = some vb) (hra : w.ownsRow base 36 1 va n xs) (hrb : w.ownsRow base 36 1 vb n ys) (hn : n ≤ 200000) (hb : base ≤ w.heap.size)
    (hpa : va.ownBlock ≠ some p) (hpb : vb.ownBlock ≠ some p) (hab : ∀ g, va.ownBlock = some g → vb.ownBlock ≠ some g) (hT : w.ownsRow base 9 1 (sl g1 T.length T.length) T.length (T.map Value.string)) (hT1 : T.length ≤ 65536) :
    Calls Tryz.prog 54 #[.pointer (some ⟨p, 0, none⟩), sl g1 T.length T.length] w (RLKeep base p n va vb xs ys L g1 T w) := by
  obtain ⟨i0, hi, hz0, hz1, hz2⟩ := info_parts Tryz.infoStr
  obtain ⟨i1, hj, hy0, hy1, hy2⟩ := info_parts Tryz.infoStrs
  have hsl := fun wx => slice_cap wx (some ⟨g1, 0, none⟩) T.length T.length
  have c8 := hL.1 8 va hL8
  have c9 := hL.1 9 vb hL9
  have f8 := hL.2 8 (List.getElem?_eq_some_iff.1 hL8).1
  have f9 := hL.2 9 (List.getElem?_eq_some_iff.1 hL9).1
  have hplt := World.block_lt_of_cell? w _ c8
  have HL := Hid.mk hL
  have HA := Hid.mk hra
  have HB := Hid.mk hrb
  have HT := Hid.mk hT
  have HAB := Hid.mk hab
  clear hL hra hrb hT hab hL8 hL9
  unfold sl at *
  go_enter Tryz.func54, Tryz.ntmps54
  go_wp2_with (first | (at_make; refine wpList_make_full _ rfl _ _ 36 rfl base 9 i0 (.string ByteArray.empty) 1 Tryz.underlying36 hi hz0 hz1 _ _ _ _ T.length rfl rfl ?b0 ?b1 ?b2 ?b3 ?b4 ?_))
  case b0 => rfl
  case b1 => first | rfl | omega
  case b2 => first | omega | (rw [hz2]; omega)
  case b3 => first | (unfold maxLen; omega) | exact hb
  try (case b4 => exact hb)
  intro w1 hown1 hgrow1
  have hb1 : Bel w w1 := (Bel.refl _).grown hgrow1 (fun g hg => by cases hg)
  obtain ⟨cur, hcur, hcs⟩ : ∃ cur : Array Value, w1.heap[w.heap.size]? = some (.cells cur 9 (0, 0)) ∧ cur.size = T.length := by
    rcases hown1.2 with ⟨h', _⟩ | ⟨g', cap', cur, h', _, hg, _, _, hs, _⟩
    · simp at h'
    · simp only [Value.slice.injEq, Option.some.injEq, Addr.mk.injEq, and_true, true_and] at h'
      obtain ⟨rfl, rfl⟩ := h'
      exact ⟨cur, hg, by simpa using hs⟩
  have hT2 : Hid (∀ j v, (T.map Value.string)[j]? = some v → w1.cell? ((⟨g1, 0, none⟩ : Addr).add j) = some v) := fun j v hv => by
    have hadd : (⟨g1, 0, none⟩ : Addr).add j = ⟨g1, j, none⟩ := by unfold Addr.add; split <;> simp_all
    rw [hadd]
    have hj : j < T.length := by have := (List.getElem?_eq_some_iff.1 hv).1; simpa using this
    exact (hb1.cell ((World.ownsRow.cellAt HT.out j (by omega)).trans hv))
  clear hown1 hgrow1 hsl
  have hstr : (Tryz.prog.info? 9).map (·.size) = some 1 := by rw [hi]; simp [hz1]
  have hrun := run_copy_row (P := Tryz.prog) w1 36 36 3 9 w.heap.size 0 T.length T.length ⟨g1, 0, none⟩ T.length T.length cur 9 (T.map Value.string) Tryz.underlying36 hstr hcur (by simp) hT2.out (by simp; omega) (by intro v hv; obtain ⟨t, -, rfl⟩ := List.mem_map.1 hv; rfl)
  rw [copied_list hcs] at hrun
  have HC := Hid.mk (row_copied (base := base) (T := T) hcur hb rfl (by unfold maxLen; omega))
  have hb2 : Bel w (w1.setRow w.heap.size (T.map Value.string).toArray) := Bel.of_below (below_setRow hb1.below (Nat.le_refl _) _) (Nat.le_refl _)
  generalize w1.setRow w.heap.size (T.map Value.string).toArray = w2 at *
  have x8 := hb2.cell c8
  have x9 := hb2.cell c9
  have y8 := hb2.frozen c8 f8
  have y9 := hb2.frozen c9 f9
  have HL2 := Hid.mk (HL.out.later hb2)
  have HA2 := Hid.mk (own_later HA.out hb2)
  have HB2 := Hid.mk (own_later HB.out hb2)
  have hsz2 := hb2.size
  have hp2 : p < w2.heap.size := World.block_lt_of_cell? w2 _ x8
  have hg2l : w.heap.size < w2.heap.size := (World.ownsRow.lt HC.out _ rfl).2
  clear hcur hcs hb1 hT2 c8 c9 f8 f9 HL HA HB
  go_wp2_with (first | (at_builtin; refine wpList_append_lies _ rfl _ _ 40 rfl base 36 i1 (.slice none 0 0) 1 24 Tryz.underlying40 hj hy0 hy1 hy2 rfl (by decide) _ n xs rfl ?p1 ⟨w2.heap.size, 0, none⟩ 1 1 [.slice (some ⟨g1, 0, none⟩) T.length T.length] rfl rfl ?d1 ?d2 (by decide) ?d3 ?d4 ?d5 _ rfl ?_))
  case p1 => exact World.ownsRow.alloc HA2.out _
  try (case d1 => exact one_new _ _ _ _ (by simp))
  case d2 => first | rfl | (intro u hu; simp at hu; subst hu; rfl)
  case d3 => unfold maxLen; omega
  case d4 => omega
  case d5 => first | omega | (simp; omega)
  intro ga ca w3 hown3 hgrow3 hat3 hlt3
  have b3 : But va.ownBlock.toList w2 w3 := (But.of_bel (Bel.step_alloc (Bel.refl w2) _)).trans (lgrown_but hgrow3)
  have hpA : p ∉ va.ownBlock.toList := fun h => hpa (by simpa using h)
  have hpB : p ∉ vb.ownBlock.toList := fun h => hpb (by simpa using h)
  have z8 := b3.cell x8 hpA
  have z9 := b3.cell x9 hpA
  have u8 := b3.frozen x8 hpA y8
  have u9 := b3.frozen x9 hpA y9
  have hvbw : ∀ g, vb.ownBlock = some g → g < w2.heap.size := fun g hg => (World.ownsRow.lt HB2.out g hg).2
  have hgap : ga ≠ p := by
    rcases hat3 with e | e
    · exact fun e2 => hpa (by rw [e, e2])
    · omega
  have hgavb : vb.ownBlock ≠ some ga := by
    rcases hat3 with e | e
    · exact HAB.out ga e
    · intro e2; have := hvbw ga e2; omega
  have c4 : But [p] w3 (w3.setCell ⟨p, 8, none⟩ (.slice (some ⟨ga, 0, none⟩) (n + 1) ca)) := (But.refl _ _).set (by simp) _
  have HB4 := Hid.mk (lown_but (lown_but HB2.out b3 (fun g hg e => HAB.out g (by simpa using e) hg)) c4 (fun g hg e => hpb (by rw [hg, List.mem_singleton.1 e])))
  have HA4 := Hid.mk (lown_but hown3 c4 (fun g hg e => hgap (by
    have : ga = g := by simpa [Value.ownBlock] using hg
    rw [this, List.mem_singleton.1 e])))
  have HL4 := Hid.mk ((HL2.out.but b3 hpA).set 8 (.slice (some ⟨ga, 0, none⟩) (n + 1) ca))
  have B24 : Hid (But (p :: (va.ownBlock.toList ++ vb.ownBlock.toList)) w2 (w3.setCell ⟨p, 8, none⟩ (.slice (some ⟨ga, 0, none⟩) (n + 1) ca))) := (b3.mono (fun k hk => Or.inl (List.mem_cons_of_mem _ (List.mem_append_left _ hk)))).put (Or.inl (by simp)) _
  have HGA : Hid (va.ownBlock = some ga ∨ w2.heap.size ≤ ga) := hat3.imp id (fun e => by omega)
  have hs3 := b3.size
  have hgal : ga < w3.heap.size := hlt3
  have hvb3 : ∀ g, vb.ownBlock = some g → g < w3.heap.size := fun g hg => by have := hvbw g hg; omega
  clear hown3 hgrow3 hat3 hlt3 HA2 HB2 HL2
  go_wp2_with (first | (at_builtin; refine wpList_append_lies _ rfl _ _ 40 rfl base 36 i1 (.slice none 0 0) 1 24 Tryz.underlying40 hj hy0 hy1 hy2 rfl (by decide) _ n ys rfl ?p1 ⟨w3.heap.size, 0, none⟩ 1 1 [.slice (some ⟨w.heap.size, 0, none⟩) T.length T.length] rfl rfl ?d1 ?d2 (by decide) ?d3 ?d4 ?d5 _ rfl ?_))
  case p1 => exact World.ownsRow.alloc HB4.out _
  try (case d1 => exact one_new _ _ _ _ (by simp))
  case d2 => first | rfl | (intro u hu; simp at hu; subst hu; rfl)
  case d3 => unfold maxLen; omega
  case d4 => omega
  case d5 => first | omega | (simp; omega)
  intro gb cb w5 hown5 hgrow5 hat5 hlt5
  have b5 : But vb.ownBlock.toList (w3.setCell ⟨p, 8, none⟩ (.slice (some ⟨ga, 0, none⟩) (n + 1) ca)) w5 := (But.of_bel (Bel.step_alloc (Bel.refl _) _)).trans (lgrown_but hgrow5)
  have t9 := b5.cell ((set_other (by simp)).trans z9) hpB
  have v9 := b5.frozen ((set_other (by simp)).trans z9) hpB (by rw [frozen_set]; exact u9)
  have hgb : Hid (vb.ownBlock = some gb ∨ w3.heap.size ≤ gb) := hat5.imp id (fun e => by first | omega | (rw [e]; simp))
  have H5 := Hid.mk hown5
  clear hown5 hgrow5 hat5
  go_wp2
  go_end0
  have hgbp : gb ≠ p := by
    rcases hgb.out with e | e
    · exact fun e2 => hpb (by rw [e, e2])
    · omega
  have c6 : But [p] w5 (w5.setCell ⟨p, 9, none⟩ (.slice (some ⟨gb, 0, none⟩) (n + 1) cb)) := (But.refl _ _).set (by simp) _
  refine ⟨rfl, w.heap.size, ga, ca, gb, cb, w2, hb2, Nat.le_refl _, hg2l, HC.out, (B24.out.trans (b5.mono (fun k hk => Or.inl (List.mem_cons_of_mem _ (List.mem_append_right _ hk))))).put (Or.inl (by simp)) _, (HL4.out.but b5 hpB).set 9 _, lown_but (lown_but HA4.out b5 (fun g hg e => hgavb (by
      have : ga = g := by simpa [sl, Value.ownBlock] using hg
      rw [this]; simpa using e))) c6 (fun g hg e => hgap (by
      have : ga = g := by simpa [sl, Value.ownBlock] using hg
      rw [this, List.mem_singleton.1 e])), lown_but H5.out c6 (fun g hg e => hgbp (by
      have : gb = g := by simpa [sl, Value.ownBlock] using hg
      rw [this, List.mem_singleton.1 e])), HGA.out, hgb.out.imp id (fun e => by omega), ?_⟩
  rcases hgb.out with e | e
  · exact fun e2 => hgavb (by rw [e, e2])
  · omega

theorem lkeep_nil (p : Nat) (w : World) : Calls Tryz.prog 54 #[.pointer (some ⟨p, 0, none⟩), .slice none 0 0] w fun e w' => e = .returned (.tuple #[]) ∧ w = w' := by
  go_enter Tryz.func54, Tryz.ntmps54
  go_wp2
  go_end0
  exact ⟨rfl, rfl⟩
/-- a list was kept -/
def RKeep (W0 : Base) (s : Nat) (x : WG) (v : Value) (T : List ByteArray) (e : Ending) (w' : World) : Prop := e = .returned (.tuple #[]) ∧ ∃ x', WInv W0 (s + 1) x' w' ∧ x'.p = x.p ∧ x'.prs = x.prs ∧ RowAt w' v T.length (T.map Value.string)
theorem wkeep_is (W0 : Base) (s : Nat) (x : WG) (g1 : Nat) (T : List ByteArray) (w0 w : World) (h : WInv W0 s x w0) (hbel : Bel w0 w) (hT : OwnT w0.heap.size w (sl g1 T.length T.length) T) (hT1 : T.length ≤ 65536) (hs : s ≤ 150000) :
    Calls Tryz.prog 54 #[.pointer (some ⟨x.p, 0, none⟩), sl g1 T.length T.length] w (RKeep W0 s x (sl g1 T.length T.length) T) := by
  have hw := h.later hbel
  have h2 := h.2.1.size
  have hc := lnodup_le h.2.2.1
  have he := WG.count x
  have hTw : w.ownsRow W0.heap.size 9 1 (sl g1 T.length T.length) T.length (T.map Value.string) := World.ownsRow.mono hT h2
  have hpc : 1 ≤ [x.p].count x.p := lcount_mem.1 (by simp)
  refine (lkeep_is W0.heap.size x.p x.lss.length x.vls x.vlw (x.lss.map fun l => sl l.g1 l.T.length l.T.length) (x.lss.map fun l => sl l.g2 l.T.length l.T.length) x.cells g1 T w hw.1 rfl rfl hw.2.2.2.2.2.2.2.2.2.1 hw.2.2.2.2.2.2.2.2.2.2.1 (by have := h.2.2.2.2.2.2.2.2.2.2.2.1.2.2; omega) hw.2.1.size (fun e => ?_) (fun e => ?_) (fun g e e2 => ?_) hTw hT1).mono ?_
  · have a1 : 1 ≤ x.vls.ownBlock.toList.count x.p := lcount_mem.1 (by simp [e])
    have a2 := he x.p
    have a3 := hc x.p
    omega
  · have a1 : 1 ≤ x.vlw.ownBlock.toList.count x.p := lcount_mem.1 (by simp [e])
    have a2 := he x.p
    have a3 := hc x.p
    omega
  · have a1 : 1 ≤ x.vls.ownBlock.toList.count g := lcount_mem.1 (by simp [e])
    have a4 : 1 ≤ x.vlw.ownBlock.toList.count g := lcount_mem.1 (by simp [e2])
    have a2 := he g
    have a3 := hc g
    omega
  rintro e w' ⟨rfl, g2, ga, ca, gb, cb, w1, b1, hg2, hg2l, hrow2, hb, hL, hra, hrb, hga, hgb, hab⟩
  have hg1 := World.ownsRow.lt hT g1 rfl
  have hb1 := b1.size
  have hbs := hbel.size
  have hl : LsG.At W0.heap.size ⟨g1, g2, T⟩ w1 := ⟨own_later hTw b1, hrow2, hT1⟩
  have hk := h.keep (hbel.trans b1) ⟨g1, g2, T⟩ hl (by show g1 ≠ g2; omega) (fun j hj => by
    simp only [List.mem_cons, List.not_mem_nil, or_false] at hj
    rcases hj with rfl | rfl
    · exact ⟨hg1.1, by omega⟩
    · exact ⟨by omega, hg2l⟩) hb hL hra hrb hga hgb hab
  refine ⟨rfl, _, hk, rfl, rfl, ?_⟩
  have hlast := hk.2.2.2.2.2.2.2.2.2.2.2.2.1 ⟨g1, g2, T⟩ (by simp)
  exact RowAt.of_owns hlast.1

end Go.Proofs.YtgfildmmcbjpnabGreat

namespace Go.Proofs.YtgfildmmcbjpnabGreat
open Go.RowKit

/-- where a name stands in a pool, or would -/
def FindIs (B : List BK) (id : ByteArray) (k : Nat) (there : Bool) : Prop := k ≤ B.length ∧ (∀ j (h : j < B.length), j < k → less B[j].1 id = true) ∧ (∀ h : k < B.length, less B[k].1 id = false) ∧ (there = true ↔ ∃ h : k < B.length, B[k].1 = id)
def RFind (w : World) (B : List BK) (id : ByteArray) (e : Ending) (w' : World) : Prop := ∃ (k : Nat) (there : Bool), e = .returned (.tuple #[.int .i64 k, .bool there]) ∧ Bel w w' ∧ FindIs B id k there

set_option maxRecDepth 100000 in
set_option maxHeartbeats 1600000 in
theorem find_any (B : List BK) (vB : Value) (id : ByteArray) (w : World) (hP : PoolAt w vB B) (hB : B.length ≤ 8) :
    Calls Tryz.prog 90 #[vB, .string id] w (RFind w B id) := by
  obtain ⟨aoB, capB, rfl, hcB⟩ : ∃ ao cap, vB = .slice ao B.length cap ∧ ∀ j (hj : j < B.length), ∃ g, ao = some ⟨g, 0, none⟩ ∧ w.cell? ⟨g, j * 2, none⟩ = some (.string B[j].1) := by
    rcases hP.form with ⟨rfl, rfl⟩ | ⟨g, cap, rfl, _, _, hc⟩
    · exact ⟨_, _, rfl, fun j hj => by simp at hj⟩
    · exact ⟨_, _, rfl, fun j hj => ⟨g, rfl, (hc j hj).1⟩⟩
  go_enter Tryz.func90, Tryz.ntmps90
  go_wp2
  go_loopg [6] B.length (fun r n wr => w = wr ∧ ∃ k : Nat, r = B.length - k ∧ k ≤ B.length ∧ n = .int .i64 k ∧ ∀ j (h : j < B.length), j < k → less B[j].1 id = true)
  case atStart => exact ⟨rfl, 0, by omega, by omega, rfl, fun j _ h => by omega⟩
  case round =>
    obtain ⟨rfl, k, hr, hk, rfl, hall⟩ := hrel
    have HA : Hid (∀ j (h : j < B.length), j < k → less B[j].1 id = true) := hall
    clear hall
    by_cases hlt : k < B.length
    · obtain ⟨g, rfl, b0⟩ := hcB k hlt
      have hltb : decide ((k : Int) < (B.length : Int)) = true := decide_eq_true (by omega)
      have HK : Hid (B[k].1 = B[k].1) := rfl
      cases hless : Op.bytesLess B[k].1.toList id.toList
      · have hfin : Hid (∀ there : Bool, (there = true ↔ B[k].1 = id) → FindIs B id k there) := fun there ht => ⟨hk, HA.out, fun h => hless, ⟨fun h => ⟨hlt, ht.1 h⟩, fun ⟨_, h⟩ => ht.2 h⟩⟩
        have heq : Hid (((B[k].1.toList == id.toList) = true) ↔ B[k].1 = id) := str_eq
        clear hcB
        generalize B[k].1 = idk at *
        go_wp2_with fail
        go_quiet (fail)
        go_wp2
        go_ret2
        exact ⟨k, _, rfl, by (repeat (first | exact Bel.refl _ | assumption | refine Bel.step_alloc ?_ _ | refine Bel.step_drew ?_ | refine Bel.step_drewN ?_ _ | refine Bel.step_set ?_ (by simp <;> omega) _ | refine Bel.trans ?_ (by assumption))), hfin.out _ heq.out⟩
      · have hstep : Hid (∀ j (h : j < B.length), j < k + 1 → less B[j].1 id = true) := fun j h hj => by
          by_cases he : j = k
          · subst he; exact hless
          · exact HA.out j h (by omega)
        clear hcB
        generalize B[k].1 = idk at *
        go_wp2_with fail
        go_roundg (B.length - (k + 1))
        case measure => omega
        case rel => exact ⟨rfl, k + 1, rfl, by omega, by go_num, hstep.out⟩
    · have hltb : decide ((k : Int) < (B.length : Int)) = false := decide_eq_false (by omega)
      go_wp2_with fail
      go_quiet (fail)
      go_wp2
      go_ret2
      exact ⟨k, _, rfl, by (repeat (first | exact Bel.refl _ | assumption | refine Bel.step_alloc ?_ _ | refine Bel.step_drew ?_ | refine Bel.step_drewN ?_ _ | refine Bel.step_set ?_ (by simp <;> omega) _ | refine Bel.trans ?_ (by assumption))), hk, HA.out, fun h => absurd h hlt, ⟨fun h => (by cases h), fun ⟨h, _⟩ => absurd h hlt⟩⟩

end Go.Proofs.YtgfildmmcbjpnabGreat

namespace Go.Proofs.YtgfildmmcbjpnabGreat
open Go.RowKit

theorem map_add0 (ao : Option Addr) : ao.map (·.add 0) = ao := by cases ao <;> rfl
theorem slice_to (wx : World) (ao : Option Addr) (L cap k : Nat) (hk : k ≤ cap) :
    (Instr.slice 45 (.slice ao L cap) none (some (.int .i64 k)) none).run Tryz.prog wx = .ok (.slice ao k cap) wx := by
  rw [run_slice_h (P := Tryz.prog) wx 45 ao L cap (by kernel_rfl) .i64 _ (by omega) (by omega)]
  have hs : (sizeOf (Tryz.prog.elem 45)).run Tryz.prog wx = .ok 2 wx := by kernel_rfl
  rw [hs]
  simp only [Result.andThen, sliced, Int.toNat_natCast, Nat.zero_mul, map_add0, ite_self, Nat.sub_zero]
def cutB (ao : Option Addr) (L cap k : Nat) : Value := .slice (if cap = k then ao else ao.map (·.add (k * 2))) (L - k) (cap - k)
theorem slice_from (wx : World) (ao : Option Addr) (L cap k : Nat) (hk : k ≤ L) :
    (Instr.slice 45 (.slice ao L cap) (some (.int .i64 k)) none none).run Tryz.prog wx = .ok (cutB ao L cap k) wx := by
  rw [run_slice_any (P := Tryz.prog) wx 45 ao L cap (by kernel_rfl)]
  have hs : (sizeOf (Tryz.prog.elem 45)).run Tryz.prog wx = .ok 2 wx := by kernel_rfl
  have hb : (Instr.sliceBounds true L cap (some (.int .i64 k)) none none).run Tryz.prog wx = .ok (k, L, cap) wx := by
    simp [Instr.sliceBounds, run_sliceBound, go_sem, hk]
  rw [hb]
  simp only [Result.andThen, hs, sliced, cutB]
theorem pcells_take (B : List BK) (k : Nat) : pcells (B.take k) = (pcells B).take (k * 2) := by
  induction B generalizing k with
  | nil => simp [pcells]
  | cons b B ih =>
    cases k with
    | zero => simp [pcells]
    | succ k =>
      have e : (k + 1) * 2 = k * 2 + 1 + 1 := by omega
      have := ih k
      simp only [pcells, List.take_succ_cons, List.flatMap_cons, List.cons_append, List.nil_append, e] at this ⊢
      rw [this]
theorem pcells_drop (B : List BK) (k : Nat) : pcells (B.drop k) = (pcells B).drop (k * 2) := by
  induction B generalizing k with
  | nil => simp [pcells]
  | cons b B ih =>
    cases k with
    | zero => simp
    | succ k =>
      have e : (k + 1) * 2 = k * 2 + 1 + 1 := by omega
      have := ih k
      simp only [pcells, List.drop_succ_cons, List.flatMap_cons, List.cons_append, List.nil_append, e] at this ⊢
      rw [this]
theorem pcellsS_one (B : List BK) : ∀ u ∈ pcells B, u.oneCell' = true := by
  intro u hu
  simp only [pcells, List.mem_flatMap, List.mem_cons, List.not_mem_nil, or_false] at hu
  obtain ⟨b, _, rfl | rfl⟩ := hu <;> rfl
theorem src_to {w : World} {ao : Option Addr} {cap k : Nat} {B : List BK} (h : PoolAt w (.slice ao B.length cap) B) (hk : k ≤ B.length) : SrcAt w (.slice ao k cap) k (pcells (B.take k)) := by
  rcases h with ⟨h1, h2, h3⟩ | ⟨g, cap', hv, hn, hg, hc⟩
  · simp only [Value.slice.injEq] at h1
    obtain ⟨rfl, h4, rfl⟩ := h1
    have : k = 0 := by omega
    subst this
    exact Or.inl ⟨rfl, rfl, by simp [pcells]⟩
  · simp only [Value.slice.injEq] at hv
    obtain ⟨rfl, -, rfl⟩ := hv
    refine Or.inr ⟨_, _, rfl, fun j u hu => ?_⟩
    have hadd : (⟨g, 0, none⟩ : Addr).add j = ⟨g, j, none⟩ := by unfold Addr.add; split <;> simp_all
    rw [hadd]
    refine hc j u ?_
    rw [pcells_take, List.getElem?_take] at hu
    split at hu
    · exact hu
    · cases hu
theorem src_from {w : World} {ao : Option Addr} {cap k : Nat} {B : List BK} (h : PoolAt w (.slice ao B.length cap) B) (hk : k ≤ B.length) : SrcAt w (cutB ao B.length cap k) (B.length - k) (pcells (B.drop k)) := by
  rcases h with ⟨h1, h2, h3⟩ | ⟨g, cap', hv, hn, hg, hc⟩
  · simp only [Value.slice.injEq] at h1
    obtain ⟨rfl, h4, rfl⟩ := h1
    have hB0 : B = [] := List.eq_nil_of_length_eq_zero h2
    subst hB0
    have : k = 0 := by simpa using hk
    subst this
    exact Or.inl ⟨by simp [cutB], by simp, by simp [pcells]⟩
  · simp only [Value.slice.injEq] at hv
    obtain ⟨rfl, -, rfl⟩ := hv
    by_cases hck : cap = k
    · have hkl : k = B.length := by omega
      refine Or.inr ⟨⟨g, 0, none⟩, cap - k, by rw [cutB, if_pos hck], fun j u hu => ?_⟩
      rw [hkl] at hu
      simp [pcells] at hu
    · refine Or.inr ⟨(⟨g, 0, none⟩ : Addr).add (k * 2), cap - k, by rw [cutB, if_neg hck]; rfl, fun j u hu => ?_⟩
      have hadd : ((⟨g, 0, none⟩ : Addr).add (k * 2)).add j = ⟨g, k * 2 + j, none⟩ := by
        unfold Addr.add
        split <;> split <;> simp_all
      rw [hadd]
      refine hc _ u ?_
      rw [pcells_drop, List.getElem?_drop] at hu
      exact hu

end Go.Proofs.YtgfildmmcbjpnabGreat

namespace Go.Proofs.YtgfildmmcbjpnabGreat
open Go.RowKit

/-- what a change makes of a pool, and its error -/
def chg (B : List BK) (kind : Int) (S : ByteArray) (wt : Int) (k : Nat) (there : Bool) : List BK × Int :=
  if kind = 4 ∧ (S.size = 0 ∨ 8 < S.size) then (B, 2)
  else if kind ≠ 5 ∧ (wt < 0 ∨ 6 < wt) then (B, 5)
  else if kind = 4 ∧ there = true then (B, 3)
  else if kind = 4 ∧ B.length = 8 then (B, 6)
  else if kind ≠ 4 ∧ there = false then (B, 4)
  else (B.take k ++ (if kind ≠ 5 then [(S, wt)] else []) ++ B.drop (if kind ≠ 4 then k + 1 else k), 0)
def RChg (w : World) (B : List BK) (kind : Int) (S : ByteArray) (wt : Int) (e : Ending) (w' : World) : Prop := ∃ (v : Value) (k : Nat) (there : Bool) (err : Int), e = .returned (.tuple #[v, .int .i64 err]) ∧ Bel w w' ∧ FindIs B S k there ∧ PoolAt w' v (chg B kind S wt k there).1 ∧ err = (chg B kind S wt k there).2 ∧ (err = 0 → ∀ g, v.ownBlock = some g → w.heap.size ≤ g)
theorem RChg.same {w w' : World} {B : List BK} {kind : Int} {S : ByteArray} {wt : Int} {v : Value} {k : Nat} {there : Bool} {err : Int} (hb : Bel w w') (hF : FindIs B S k there) (hP : PoolAt w' v B) (hc : chg B kind S wt k there = (B, err)) (h0 : err ≠ 0 := by decide) : RChg w B kind S wt (.returned (.tuple #[v, .int .i64 err])) w' := ⟨v, k, there, err, rfl, hb, hF, by rw [hc]; exact hP, by rw [hc], fun e => absurd e h0⟩

set_option maxRecDepth 100000 in
set_option maxHeartbeats 4000000 in
theorem changed_any (B : List BK) (vB : Value) (kind A wt C : Int) (S : ByteArray) (w : World) (hP : PoolAt w vB B) (hB : B.length ≤ 8) (hkind : kind = 4 ∨ kind = 5 ∨ kind = 6) (hS : S.size ≤ maxLen) :
    Calls Tryz.prog 51 #[vB, .agg #[.int .i64 kind, .int .i64 A, .int .i64 wt, .int .i64 C, .string S]] w (RChg w B kind S wt) := by
  obtain ⟨i0, hi, hz0, hz1, hz2⟩ := info_parts Tryz.infoBKS
  unfold maxLen at hS
  obtain ⟨aoB, capB, hvB, hcapB⟩ : ∃ ao cap, vB = .slice ao B.length cap ∧ B.length ≤ cap := by
    rcases hP.form with ⟨rfl, rfl⟩ | ⟨g, cap, rfl, hc, _⟩
    · exact ⟨_, _, rfl, by simp⟩
    · exact ⟨_, _, rfl, hc⟩
  subst hvB
  go_enter Tryz.func51, Tryz.ntmps51
  go_wp2_with fail
  refine (find_any B _ S _ (hP.later (by (repeat (first | exact Bel.refl _ | assumption | refine Bel.step_alloc ?_ _ | refine Bel.step_drew ?_ | refine Bel.step_drewN ?_ _ | refine Bel.step_set ?_ (by simp <;> omega) _ | refine Bel.trans ?_ (by assumption))))) hB).mono ?_
  rintro e w1 ⟨k, there, rfl, hb1, hF⟩
  have hkB : k ≤ B.length := hF.1
  have HF : Hid (FindIs B S k there) := hF
  clear hF
  have hbw : Bel w w1 := by (repeat (first | exact Bel.refl _ | assumption | refine Bel.step_alloc ?_ _ | refine Bel.step_drew ?_ | refine Bel.step_drewN ?_ _ | refine Bel.step_set ?_ (by simp <;> omega) _ | refine Bel.trans ?_ (by assumption)))
  have hx0 : w1.cell? ⟨w.heap.size, 0, none⟩ = some (.int .i64 kind) := hb1.cell (by simp)
  have hx2 : w1.cell? ⟨w.heap.size, 2, none⟩ = some (.int .i64 wt) := hb1.cell (by simp)
  have hx4 : w1.cell? ⟨w.heap.size, 4, none⟩ = some (.string S) := hb1.cell (by simp)
  have hbx : w.heap.size < w1.heap.size := World.block_lt_of_cell? w1 _ hx0
  clear hb1
  generalize w.heap.size = px at *
  go_upto_region 2 with fail
  go_cut [8] (fun v8 wc => w1 = wc ∧ ∃ bad : Bool, v8 = .bool bad ∧ (bad = true ↔ (wt < 0 ∨ 6 < wt)))
  case first =>
    by_cases h1 : wt < 0
    · go_wp2_with fail
      go_meet
      case rel => exact ⟨rfl, _, rfl, ⟨fun _ => Or.inl h1, fun _ => rfl⟩⟩
    · by_cases h2 : 6 < wt
      · go_wp2_with fail
        go_meet
        case rel => exact ⟨rfl, _, rfl, ⟨fun _ => Or.inr h2, fun _ => rfl⟩⟩
      · go_wp2_with fail
        go_meet
        case rel => exact ⟨rfl, _, rfl, ⟨fun h => (by cases h), fun h => by exfalso; omega⟩⟩
  case rest =>
    obtain ⟨rfl, bad, rfl, hbad⟩ := hcut
    have HBad : Hid (bad = true ↔ (wt < 0 ∨ 6 < wt)) := hbad
    clear hbad
    have hP1 := hP.later hbw
    have hsl := fun wx => slice_to wx aoB B.length capB k (by omega)
    have hsf := fun wx => slice_from wx aoB B.length capB k hkB
    go_wp2_with (first | (at_builtin; refine wpList_append_src _ rfl _ _ 45 rfl w1.heap.size 56 i0 (.agg #[.string ByteArray.empty, .int .i64 0]) 2 24 Tryz.underlying45 hi hz0 hz1 hz2 rfl (by decide) _ 0 [] rfl ?o1 _ k (pcells (B.take k)) rfl ?o2 ?c1 ?c2 ?c3 ?c4 ?c5 ?_))
    case o1 => exact World.ownsRow_nil _ _ _ _
    case o2 => exact src_to hP1 hkB
    case c1 => rw [pcells_len]; simp; omega
    case c2 => exact pcellsS_one _
    case c3 => unfold maxLen; omega
    case c4 => omega
    case c5 => exact Nat.le_refl _
    intro v2 w2 hown2 hgrow2
    have hb2 : Bel w1 w2 := (Bel.refl _).grown hgrow2 (fun g hg => by cases hg)
    have hy0 := hb2.cell hx0
    have hy2 := hb2.cell hx2
    have hy4 := hb2.cell hx4
    have hbw2 := hbw.trans hb2
    have hP2 := hP.later hbw2
    clear hgrow2 hsl
    have hown2' : w2.ownsRow w1.heap.size 56 2 v2 k (pcells (B.take k)) := by simpa using hown2
    clear hown2
    rcases hkind with rfl | rfl | rfl
    · cases hse : S.toList.isEmpty
      rotate_left
      · have hs0 : S.size = 0 := by
          rw [ByteArray.toList_eq] at hse
          have : S.data.toList = [] := by simpa using hse
          simpa using congrArg List.length this
        go_wp2
        go_ret2
        exact RChg.same hbw2 HF.out hP2 (by simp [chg, hs0])
      have hs1 : ¬ S.size = 0 := fun h => by
        rw [ByteArray.toList_eq] at hse
        have hl : S.data.toList.length = 0 := by simpa using h
        rw [List.eq_nil_of_length_eq_zero hl] at hse
        cases hse
      by_cases hs8 : 8 < S.size
      · go_wp2
        go_ret2
        exact RChg.same hbw2 HF.out hP2 (by simp [chg, hs8])
      cases bad
      rotate_left
      · have hbd := HBad.out.1 rfl
        go_wp2
        go_ret2
        exact RChg.same hbw2 HF.out hP2 (by simp [chg, hs8, hs1, hbd])
      have hbd : ¬ (wt < 0 ∨ 6 < wt) := fun h => by cases HBad.out.2 h
      cases there
      rotate_left
      · have HB : Hid (¬ (wt < 0 ∨ 6 < wt)) := hbd
        clear hbd
        go_wp2
        go_ret2
        exact RChg.same hbw2 HF.out hP2 (by simp [chg, hs8, hs1, HB.out])
      cases hl8 : ((B.length : Int) == 8)
      rotate_left
      · have hl : B.length = 8 := by have := beq_iff_eq.1 hl8; omega
        have HB : Hid (¬ (wt < 0 ∨ 6 < wt)) := hbd
        clear hbd
        go_wp2
        go_ret2
        exact RChg.same hbw2 HF.out hP2 (by simp [chg, hs8, hs1, HB.out, hl])
      have hl : ¬ B.length = 8 := fun h => by rw [h] at hl8; cases hl8
      have HB : Hid (¬ (wt < 0 ∨ 6 < wt)) := hbd
      clear hbd
      go_wp2_with (first | (at_builtin; refine wpList_append_own _ rfl _ _ 45 rfl w1.heap.size 56 i0 (.agg #[.string ByteArray.empty, .int .i64 0]) 2 24 Tryz.underlying45 hi hz0 hz1 hz2 rfl (by decide) _ k (pcells (B.take k)) rfl ?p1 ⟨w2.heap.size, 0, none⟩ 1 1 [.string S, .int .i64 wt] rfl rfl ?d1 ?d2 ?d3 ?d4 ?d5 ?_))
      case p1 => exact hown2'.alloc _
      case d1 => exact cell_two' _ _ _ _ _ rfl
      case d2 => intro u hu; simp at hu; rcases hu with rfl | rfl <;> rfl
      case d3 => unfold maxLen; omega
      case d4 => omega
      case d5 => have := hb2.size; simp; omega
      intro v3 w3 hown3 hgrow3 _
      have hb3 : Bel w1 w3 := (hb2.step_alloc _).grown hgrow3 (fun g hg => (hown2'.lt g hg).1)
      have hz0' := hb3.cell hx0
      clear hgrow3
      have hP3 := hP.later (hbw.trans hb3)
      go_wp2_with (first | (at_builtin; refine wpList_append_src _ rfl _ _ 45 rfl w1.heap.size 56 i0 (.agg #[.string ByteArray.empty, .int .i64 0]) 2 24 Tryz.underlying45 hi hz0 hz1 hz2 rfl (by decide) _ (k + 1) (pcells (B.take k) ++ [.string S, .int .i64 wt]) rfl ?q1 _ (B.length - (k)) (pcells (B.drop (k))) rfl ?q2 ?e1 ?e2 ?e3 ?e4 ?e5 ?_))
      case q1 => exact hown3
      case q2 => exact src_from hP3 hkB
      case e1 => rw [pcells_len]; simp
      case e2 => exact pcellsS_one _
      case e3 => unfold maxLen; omega
      case e4 => omega
      case e5 => exact hb3.size
      intro v4 w4 hown4 hgrow4
      have hb4 : Bel w1 w4 := hb3.grown hgrow4 (fun g hg => (hown3.lt g hg).1)
      clear hgrow4
      go_wp2
      go_ret2
      have hch : chg B 4 S wt k false = (B.take k ++ [(S, wt)] ++ B.drop (k), 0) := by simp [chg, hs8, hs1, HB.out, hl]
      refine ⟨v4, k, false, 0, rfl, hbw.trans hb4, HF.out, ?_, by rw [hch], fun _ g hg => Nat.le_trans hbw.size (hown4.lt g hg).1⟩
      rw [hch]
      have hr := RowAt.of_owns hown4
      have hlen : (B.take k ++ [(S, wt)] ++ B.drop (k)).length = k + 1 + (B.length - (k)) := by simp; omega
      have hcel : pcells (B.take k ++ [(S, wt)] ++ B.drop (k)) = (pcells (B.take k) ++ [.string S, .int .i64 wt]) ++ pcells (B.drop (k)) := by simp [pcells]
      show RowAt _ _ _ _
      rw [hlen, hcel]
      simpa using hr
    · cases there
      · go_wp2
        go_ret2
        exact RChg.same hbw2 HF.out hP2 (by simp [chg])
      · have hk1 : k + 1 ≤ B.length := by obtain ⟨h, _⟩ := HF.out.2.2.2.1 rfl; omega
        have hb3 := hb2
        have hP3 := hP.later (hbw.trans hb2)
        have hsf2 : ∀ wx, (Instr.slice 45 (.slice aoB B.length capB) (some (.int .i64 ((k : Int) + 1))) none none).run Tryz.prog wx = .ok (cutB aoB B.length capB (k + 1)) wx := fun wx => by have := slice_from wx aoB B.length capB (k + 1) hk1; simpa using this
        clear hsf
        go_wp2_with (first | (at_builtin; refine wpList_append_src _ rfl _ _ 45 rfl w1.heap.size 56 i0 (.agg #[.string ByteArray.empty, .int .i64 0]) 2 24 Tryz.underlying45 hi hz0 hz1 hz2 rfl (by decide) _ (k) (pcells (B.take k)) rfl ?q1 _ (B.length - (k + 1)) (pcells (B.drop (k + 1))) rfl ?q2 ?e1 ?e2 ?e3 ?e4 ?e5 ?_))
        case q1 => exact hown2'
        case q2 => exact src_from hP3 hk1
        case e1 => rw [pcells_len]; simp
        case e2 => exact pcellsS_one _
        case e3 => unfold maxLen; omega
        case e4 => omega
        case e5 => exact hb2.size
        intro v4 w4 hown4 hgrow4
        have hb4 : Bel w1 w4 := hb2.grown hgrow4 (fun g hg => (hown2'.lt g hg).1)
        clear hgrow4
        go_wp2
        go_ret2
        have hch : chg B 5 S wt k true = (B.take k ++ [] ++ B.drop (k + 1), 0) := by simp [chg]
        refine ⟨v4, k, true, 0, rfl, hbw.trans hb4, HF.out, ?_, by rw [hch], fun _ g hg => Nat.le_trans hbw.size (hown4.lt g hg).1⟩
        rw [hch]
        have hr := RowAt.of_owns hown4
        have hlen : (B.take k ++ ([] : List BK) ++ B.drop (k + 1)).length = k + (B.length - (k + 1)) := by simp; omega
        have hcel : pcells (B.take k ++ ([] : List BK) ++ B.drop (k + 1)) = (pcells (B.take k)) ++ pcells (B.drop (k + 1)) := by simp [pcells]
        show RowAt _ _ _ _
        rw [hlen, hcel]
        exact hr
    · cases bad
      rotate_left
      · have hbd := HBad.out.1 rfl
        go_wp2
        go_ret2
        exact RChg.same hbw2 HF.out hP2 (by simp [chg, hbd])
      have HB : Hid (¬ (wt < 0 ∨ 6 < wt)) := fun h => by cases HBad.out.2 h
      cases there
      · go_wp2
        go_ret2
        exact RChg.same hbw2 HF.out hP2 (by simp [chg, HB.out])
      · have hk1 : k + 1 ≤ B.length := by obtain ⟨h, _⟩ := HF.out.2.2.2.1 rfl; omega
        go_wp2_with (first | (at_builtin; refine wpList_append_own _ rfl _ _ 45 rfl w1.heap.size 56 i0 (.agg #[.string ByteArray.empty, .int .i64 0]) 2 24 Tryz.underlying45 hi hz0 hz1 hz2 rfl (by decide) _ k (pcells (B.take k)) rfl ?p1 ⟨w2.heap.size, 0, none⟩ 1 1 [.string S, .int .i64 wt] rfl rfl ?d1 ?d2 ?d3 ?d4 ?d5 ?_))
        case p1 => exact hown2'.alloc _
        case d1 => exact cell_two' _ _ _ _ _ rfl
        case d2 => intro u hu; simp at hu; rcases hu with rfl | rfl <;> rfl
        case d3 => unfold maxLen; omega
        case d4 => omega
        case d5 => have := hb2.size; simp; omega
        intro v3 w3 hown3 hgrow3 _
        have hb3 : Bel w1 w3 := (hb2.step_alloc _).grown hgrow3 (fun g hg => (hown2'.lt g hg).1)
        have hz0' := hb3.cell hx0
        clear hgrow3
        have hP3 := hP.later (hbw.trans hb3)
        have hsf2 : ∀ wx, (Instr.slice 45 (.slice aoB B.length capB) (some (.int .i64 ((k : Int) + 1))) none none).run Tryz.prog wx = .ok (cutB aoB B.length capB (k + 1)) wx := fun wx => by have := slice_from wx aoB B.length capB (k + 1) hk1; simpa using this
        clear hsf
        go_wp2_with (first | (at_builtin; refine wpList_append_src _ rfl _ _ 45 rfl w1.heap.size 56 i0 (.agg #[.string ByteArray.empty, .int .i64 0]) 2 24 Tryz.underlying45 hi hz0 hz1 hz2 rfl (by decide) _ (k + 1) (pcells (B.take k) ++ [.string S, .int .i64 wt]) rfl ?q1 _ (B.length - (k + 1)) (pcells (B.drop (k + 1))) rfl ?q2 ?e1 ?e2 ?e3 ?e4 ?e5 ?_))
        case q1 => exact hown3
        case q2 => exact src_from hP3 hk1
        case e1 => rw [pcells_len]; simp
        case e2 => exact pcellsS_one _
        case e3 => unfold maxLen; omega
        case e4 => omega
        case e5 => exact hb3.size
        intro v4 w4 hown4 hgrow4
        have hb4 : Bel w1 w4 := hb3.grown hgrow4 (fun g hg => (hown3.lt g hg).1)
        clear hgrow4
        go_wp2
        go_ret2
        have hch : chg B 6 S wt k true = (B.take k ++ [(S, wt)] ++ B.drop (k + 1), 0) := by simp [chg, HB.out]
        refine ⟨v4, k, true, 0, rfl, hbw.trans hb4, HF.out, ?_, by rw [hch], fun _ g hg => Nat.le_trans hbw.size (hown4.lt g hg).1⟩
        rw [hch]
        have hr := RowAt.of_owns hown4
        have hlen : (B.take k ++ [(S, wt)] ++ B.drop (k + 1)).length = k + 1 + (B.length - (k + 1)) := by simp; omega
        have hcel : pcells (B.take k ++ [(S, wt)] ++ B.drop (k + 1)) = (pcells (B.take k) ++ [.string S, .int .i64 wt]) ++ pcells (B.drop (k + 1)) := by simp [pcells]
        show RowAt _ _ _ _
        rw [hlen, hcel]
        rw [show k + 1 + (B.length - (k + 1)) = B.length by omega]
        simpa using hr

end Go.Proofs.YtgfildmmcbjpnabGreat
