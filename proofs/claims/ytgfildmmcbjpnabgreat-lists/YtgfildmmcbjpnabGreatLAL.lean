import Derived.Test.YtgfildmmcbjpnabGreatLAK
import Derived.Deep.AppendLies
namespace Go.Proofs.YtgfildmmcbjpnabGreat
open Go.RowKit

def OwnI (base : Nat) (w : World) (v : Value) (L : List Int) : Prop := w.ownsRow base 3 1 v L.length (L.map (Value.int .i64))
theorem OwnI.row {base : Nat} {w : World} {v : Value} {B : List Int} (h : OwnI base w v B) : IRow w v B := RowAt.of_owns h
theorem OwnI.later {base : Nat} {w w' : World} {v : Value} {B : List Int} (h : OwnI base w v B) (k : Bel w w') : OwnI base w' v B :=
  World.ownsRow.kept h (row := none) ⟨k.below.os, k.below.tape, k.below.output, k.size, fun j hj _ => k.block j hj⟩ (by
    cases hv : v.ownBlock
    · exact Or.inl rfl
    · exact Or.inr (by simp))
theorem OwnI.snoc {base : Nat} {w : World} {v : Value} {L : List Int} {b : Int} {n : Nat} (h : w.ownsRow base 3 1 v n (L.map (Value.int .i64) ++ [.int .i64 b])) (hn : n = L.length + 1) : OwnI base w v (L ++ [b]) := by
  unfold OwnI
  rw [List.map_append, List.length_append]
  subst hn
  exact h
theorem own_cell_other {base : Nat} {e : TypeId} {s : Nat} {w w' : World} {v : Value} {n : Nat} {xs : List Value} {g : Nat} (h : w.ownsRow base e s v n xs) (hg : w.grownBy w' (some g)) (hne : v.ownBlock ≠ some g) : w'.ownsRow base e s v n xs := World.ownsRow.kept h hg (Or.inr hne)
def sl (g n cap : Nat) : Value := .slice (some ⟨g, 0, none⟩) n cap
/-- two rows of one's own -/
def TwoI (base ga gb ca cb : Nat) (w : World) (La Lb : List Int) : Prop := OwnI base w (sl ga La.length ca) La ∧ OwnI base w (sl gb Lb.length cb) Lb ∧ ga ≠ gb
theorem TwoI.later {base ga gb ca cb : Nat} {w w' : World} {La Lb : List Int} (h : TwoI base ga gb ca cb w La Lb) (k : Bel w w') : TwoI base ga gb ca cb w' La Lb := ⟨h.1.later k, h.2.1.later k, h.2.2⟩
theorem TwoI.app1 {base ga gb ca cb g cap : Nat} {w w' : World} {La Lb : List Int} {x : Int} {n : Nat} (h : TwoI base ga gb ca cb w La Lb) (hown : w'.ownsRow base 3 1 (.slice (some ⟨g, 0, none⟩) n cap) n (La.map (Value.int .i64) ++ [.int .i64 x])) (hn : n = La.length + 1) (hg : w.grownBy w' (some ga)) (hat : some ga = some g ∨ w.heap.size ≤ g) : TwoI base g gb cap cb w' (La ++ [x]) Lb := by
  refine ⟨?_, own_cell_other h.2.1 hg (fun e => h.2.2 (by simpa [sl, Value.ownBlock] using e.symm)), ?_⟩
  · have := OwnI.snoc (b := x) hown hn
    rw [sl, List.length_append]; subst hn; exact this
  · have hlt := (World.ownsRow.lt h.2.1 gb rfl).2
    rcases hat with e | e
    · simp at e; subst e; exact h.2.2
    · omega
theorem TwoI.app2 {base ga gb ca cb g cap : Nat} {w w' : World} {La Lb : List Int} {x : Int} {n : Nat} (h : TwoI base ga gb ca cb w La Lb) (hown : w'.ownsRow base 3 1 (.slice (some ⟨g, 0, none⟩) n cap) n (Lb.map (Value.int .i64) ++ [.int .i64 x])) (hn : n = Lb.length + 1) (hg : w.grownBy w' (some gb)) (hat : some gb = some g ∨ w.heap.size ≤ g) : TwoI base ga g ca cap w' La (Lb ++ [x]) := by
  refine ⟨own_cell_other h.1 hg (fun e => h.2.2 (by simpa [sl, Value.ownBlock] using e)), ?_, ?_⟩
  · have := OwnI.snoc (b := x) hown hn
    rw [sl, List.length_append]; subst hn; exact this
  · have hlt := (World.ownsRow.lt h.1 ga rfl).2
    rcases hat with e | e
    · simp at e; subst e; exact h.2.2
    · omega
theorem TwoI.set1 {base ga gb ca cb : Nat} {w : World} {La Lb : List Int} (h : TwoI base ga gb ca cb w La Lb) (j : Nat) (x : Int) : TwoI base ga gb ca cb (w.setCell ⟨ga, j, none⟩ (.int .i64 x)) (La.set j x) Lb := by
  have hs := World.ownsRow.stored h.1 j (.int .i64 x)
  refine ⟨?_, own_cell_other h.2.1 hs.2 (fun e => h.2.2 (by simpa [sl, Value.ownBlock] using e.symm)), h.2.2⟩
  unfold OwnI
  rw [sl, List.length_set, List.map_set]
  exact hs.1
theorem TwoI.set2 {base ga gb ca cb : Nat} {w : World} {La Lb : List Int} (h : TwoI base ga gb ca cb w La Lb) (j : Nat) (x : Int) : TwoI base ga gb ca cb (w.setCell ⟨gb, j, none⟩ (.int .i64 x)) La (Lb.set j x) := by
  have hs := World.ownsRow.stored h.2.1 j (.int .i64 x)
  refine ⟨own_cell_other h.1 hs.2 (fun e => h.2.2 (by simpa [sl, Value.ownBlock] using e)), ?_, h.2.2⟩
  unfold OwnI
  rw [sl, List.length_set, List.map_set]
  exact hs.1
theorem bestTo_range (R : List Int) (n : Nat) : -1 ≤ (bestTo R n).1 ∧ (bestTo R n).1 < n := by
  induction n with
  | zero => simp [bestTo]
  | succ n ih =>
    rw [bestTo]
    split
    · exact ⟨by simp only; omega, by simp only; omega⟩
    · omega
theorem bestF_range (R : List Int) : -1 ≤ bestF R ∧ bestF R < R.length := bestTo_range R R.length
def RInts (w : World) (L : List Int) (e : Ending) (w' : World) : Prop := ∃ v, e = .returned v ∧ Bel w w' ∧ OwnI w.heap.size w' v L

set_option maxRecDepth 100000 in
set_option maxHeartbeats 800000 in
theorem shares_is (M : Int) (B : List BK) (v : Value) (w : World) (hP : PoolAt w v B) (hB : PoolOK B) (hM1 : 0 ≤ M) (hM2 : M ≤ 300) :
    Calls Tryz.prog 98 #[.int .i64 M, v] w (RInts w (sharesF M B)) := by
  obtain ⟨i0, hi, hz0, hz1, hz2⟩ := info_parts Tryz.infoInt
  have hTot := fun wx hx => total_is B v wx hx hB
  obtain ⟨h8, hall⟩ := hB
  have hT2 := wSum_bound B (fun b hb => (hall b hb).2.2) B.length
  rw [List.take_length] at hT2
  obtain ⟨X, hX⟩ : ∃ X, X = sharesF M B := ⟨_, rfl⟩
  rw [← hX]
  rw [sharesF, lowF, remF] at hX
  generalize wSum B = T at *
  by_cases hT : T < 1
  · rw [if_pos hT] at hX
    have HX := Hid.mk hX
    clear hX
    go_enter Tryz.func98, Tryz.ntmps98
    go_wp2_with fail
    refine (hTot _ hP).mono ?_
    rintro e w1 ⟨rfl, hb1⟩
    go_wp2
    go_ret
    exact ⟨_, rfl, hb1, by rw [HX.out]; exact World.ownsRow_nil _ _ _ _⟩
  rw [if_neg hT] at hX
  have HX := Hid.mk hX
  clear hX
  obtain ⟨ao, cap, rfl, hcell⟩ := hP.open
  go_enter Tryz.func98, Tryz.ntmps98
  go_wp2_with fail
  refine (hTot _ hP).mono ?_
  rintro e w0 ⟨rfl, hb0⟩
  have hw0 := hb0.size
  clear hTot
  go_wp2_with (first | (at_make; refine wpList_make_own _ rfl _ _ 107 rfl w.heap.size 3 i0 (.int .i64 0) 1 Tryz.underlying107 hi hz0 hz1 _ _ _ B.length rfl rfl ?b1 ?b2 ?b3 ?b4 ?_))
  case b1 => rfl
  case b2 => first | omega | (rw [hz2]; omega)
  case b3 => unfold maxLen; omega
  case b4 => exact hw0
  intro w1 hown1 hgrow1
  have hb1 : Bel w0 w1 := (Bel.refl _).grown hgrow1 (fun g hg => by cases hg)
  have hw1 := (World.ownsRow.lt hown1 _ rfl).2
  have hw01 := hb1.size
  go_wp2_with (first | (at_make; refine wpList_make_own _ rfl _ _ 107 rfl w.heap.size 3 i0 (.int .i64 0) 1 Tryz.underlying107 hi hz0 hz1 _ _ _ B.length rfl rfl ?c1 ?c2 ?c3 ?c4 ?_))
  case c1 => rfl
  case c2 => first | omega | (rw [hz2]; omega)
  case c3 => unfold maxLen; omega
  case c4 => omega
  intro w2 hown2 hgrow2
  have hb2 : Bel w1 w2 := (Bel.refl _).grown hgrow2 (fun g hg => by cases hg)
  have hT0 : TwoI w.heap.size w0.heap.size w1.heap.size B.length B.length w2 [] [] := ⟨OwnI.later (w := w1) (B := []) hown1 hb2, hown2, by omega⟩
  have hbb : Bel w w2 := hb0.trans (hb1.trans hb2)
  clear hown1 hown2 hgrow1 hgrow2 hb0 hb1 hb2 hw0 hw1 hw01
  go_wp2
  go_loopg [6, 7, 8, 26] B.length (fun r va vb vl n wr => Bel w wr ∧ ∃ (k ga gb ca cb : Nat) (La Lb : List Int) (lf : Int), r = B.length - k ∧ k ≤ B.length ∧ n = .int .i64 k ∧ va = sl ga La.length ca ∧ vb = sl gb Lb.length cb ∧ vl = .int .i64 lf ∧ TwoI w.heap.size ga gb ca cb wr La Lb ∧ La = (B.take k).map (fun b => M * b.2 / T) ∧ Lb = (B.take k).map (fun b => M * b.2 % T) ∧ lf = M - La.sum ∧ (∀ x ∈ La, 0 ≤ x ∧ x ≤ 2000) ∧ M - 2000 * k ≤ lf ∧ lf ≤ M)
  case atStart => exact ⟨hbb, 0, _, _, _, _, [], [], M, by omega, by omega, rfl, rfl, rfl, rfl, hT0, rfl, rfl, by simp, by simp, by omega, by omega⟩
  case round =>
    obtain ⟨hb, k, ga, gb, ca, cb, La, Lb, lf, hr, hk, rfl, rfl, rfl, rfl, hT2', hLa, hLb, hlf, hbd, hlf1, hlf2⟩ := hrel
    have hwr := hb.size
    have hLal : La.length = k := by rw [hLa]; simp; omega
    have hLbl : Lb.length = k := by rw [hLb]; simp; omega
    have HT := Hid.mk hT2'
    have hLa8 : La.length ≤ 8 := by omega
    have hLb8 : Lb.length ≤ 8 := by omega
    have HLa := Hid.mk hLal
    have HLb := Hid.mk hLbl
    clear hT2' hT0 hbb hLal hLbl
    by_cases hlt : k < B.length
    · obtain ⟨g, rfl, c0, c1⟩ := hcell k hlt
      have c0' := hb.cell c0
      have c1' := hb.cell c1
      obtain ⟨hw1, hw2⟩ := (hall _ (List.getElem_mem hlt)).2.2
      have HA : Hid ((B.take (k + 1)).map (fun b => M * b.2 / T) = La ++ [M * B[k].2 / T]) := by
        show List.map _ _ = _
        rw [List.take_succ_eq_append_getElem hlt, List.map_append, hLa]; rfl
      have HB : Hid ((B.take (k + 1)).map (fun b => M * b.2 % T) = Lb ++ [M * B[k].2 % T]) := by
        show List.map _ _ = _
        rw [List.take_succ_eq_append_getElem hlt, List.map_append, hLb]; rfl
      have HLF := Hid.mk hlf
      clear hcell c0 c1 hlf hLa hLb
      generalize B[k] = bk at *
      obtain ⟨idk, wk⟩ := bk
      simp only at c0' c1' HA HB hw1 hw2
      have hm1 : 0 ≤ M * wk := Int.mul_nonneg hM1 hw1
      have hm2 : M * wk ≤ 300 * 6 := Int.mul_le_mul hM2 hw2 hw1 (by omega)
      have hd1 : 0 ≤ M * wk / T := Int.ediv_nonneg hm1 (by omega)
      have hd2 : M * wk / T ≤ M * wk := Int.ediv_le_self _ hm1
      have hTn : (T == 0) = false := by rw [beq_eq_false_iff_ne]; omega
      go_wp2_with (first | (at_builtin; refine wpList_append_lies _ rfl _ _ 107 rfl w.heap.size 3 i0 (.int .i64 0) 1 8 Tryz.underlying107 hi hz0 hz1 hz2 rfl (by decide) _ (La).length ((La).map (Value.int .i64)) rfl ?p1a ⟨wr.heap.size + 1, 0, none⟩ 1 1 [.int .i64 (M * wk / T)] rfl rfl ?da1 ?da2 (by decide) ?da3 ?da4 ?da5 _ rfl ?_))
      case p1a => exact (World.ownsRow.alloc (World.ownsRow.alloc HT.out.1 _) _)
      try (case da1 => exact one_new _ _ _ _ (by simp))
      case da2 => first | rfl | (intro u hu; simp at hu; subst hu; rfl)
      case da3 => unfold maxLen; omega
      case da4 => omega
      case da5 => first | omega | (simp; omega)
      intro g1 cap1 w3 hown3 hgrow3 hat3 hlt3
      have H3 := Hid.mk (TwoI.app1 (TwoI.later HT.out ((Bel.step_alloc (Bel.refl wr) _).step_alloc _)) hown3 rfl hgrow3 (hat3.imp id (fun e => by rw [e]; simp)))
      have hb3 : Bel w w3 := ((hb.step_alloc _).step_alloc _).grown hgrow3 (fun g hg => (World.ownsRow.lt HT.out.1 g hg).1)
      have x1 : w3.cell? ⟨wr.heap.size, 1, none⟩ = some (.int .i64 wk) := cell_grown hgrow3 (by simp) (fun e => by have := (World.ownsRow.lt HT.out.1 _ e).2; simp at this)
      have hw3 := hb3.size
      clear hown3 hgrow3 hat3 hlt3 HT
      go_wp2_with (first | (at_builtin; refine wpList_append_lies _ rfl _ _ 107 rfl w.heap.size 3 i0 (.int .i64 0) 1 8 Tryz.underlying107 hi hz0 hz1 hz2 rfl (by decide) _ (Lb).length ((Lb).map (Value.int .i64)) rfl ?p1b ⟨w3.heap.size, 0, none⟩ 1 1 [.int .i64 (M * wk % T)] rfl rfl ?db1 ?db2 (by decide) ?db3 ?db4 ?db5 _ rfl ?_))
      case p1b => exact (World.ownsRow.alloc H3.out.2.1 _)
      try (case db1 => exact one_new _ _ _ _ (by simp))
      case db2 => first | rfl | (intro u hu; simp at hu; subst hu; rfl)
      case db3 => unfold maxLen; omega
      case db4 => omega
      case db5 => first | omega | (simp; omega)
      intro g2 cap2 w4 hown4 hgrow4 hat4 hlt4
      have H4 := Hid.mk (TwoI.app2 (TwoI.later H3.out (Bel.step_alloc (Bel.refl w3) _)) hown4 rfl hgrow4 (hat4.imp id (fun e => by rw [e]; simp)))
      have hb4 : Bel w w4 := (hb3.step_alloc _).grown hgrow4 (fun g hg => (World.ownsRow.lt H3.out.2.1 g hg).1)
      clear hown4 hgrow4 hat4 hlt4 H3 x1
      go_wp2
      go_roundg (B.length - (k + 1))
      case measure => omega
      case rel =>
        refine ⟨hb4, k + 1, g1, g2, cap1, cap2, La ++ [M * wk / T], Lb ++ [M * wk % T], lf - M * wk / T, rfl, by omega, by go_num, by simp [sl], by simp [sl], rfl, H4.out, HA.out.symm, HB.out.symm, ?_, ?_, by omega, by omega⟩
        · rw [HLF.out]; simp; omega
        · intro x hx
          rcases List.mem_append.1 hx with hx | hx
          · exact hbd x hx
          · simp at hx; subst hx; omega
    · have hk2 : B.take k = B := List.take_of_length_le (by omega)
      rw [hk2] at hLa hLb
      have HF : Hid (X = giveF lf.toNat La Lb) := by
        show X = _
        rw [HX.out, hlf, hLa, hLb]
      clear hcell hk2 hLa hLb hlf HX
      unfold sl
      go_wp2
      have hTw := HT.out
      have hlb : La.length = Lb.length := by rw [HLa.out, HLb.out]
      generalize hna : La.length = na at *
      rw [← hlb]
      go_loopg [8] lf.toNat (fun r vl wz => Bel w wz ∧ ∃ (l : Int) (S R : List Int), r = l.toNat ∧ vl = .int .i64 l ∧ TwoI w.heap.size ga gb ca cb wz S R ∧ S.length = na ∧ R.length = na ∧ X = giveF l.toNat S R ∧ l ≤ 300 ∧ -20000 ≤ l ∧ ∀ x ∈ S, 0 ≤ x ∧ x ≤ 20000 - l)
      case atStart => exact ⟨hb, lf, La, Lb, rfl, rfl, hTw, hna, hlb.symm, HF.out, by omega, by omega, fun x hx => by have := hbd x hx; omega⟩
      case round =>
        obtain ⟨hbz, l, S, R, hr2, rfl, hTz, hSl, hRl, hXz, hl1, hl2, hbz2⟩ := hrel
        have HXZ := Hid.mk hXz
        have HB2 := Hid.mk hbz2
        have HTZ := Hid.mk hTz
        have HSl := Hid.mk hSl
        have HRl := Hid.mk hRl
        have hwz := hbz.size
        clear hXz hbz2 HT hTw HF hbd HLa HLb hTz hlb hna hSl hRl
        by_cases hl0 : 0 < l
        · obtain ⟨n, hn⟩ : ∃ n : Nat, l.toNat = n + 1 := ⟨l.toNat - 1, by omega⟩
          have hgr := greatest_is R (sl gb R.length cb) _ HTZ.out.2.1.row (by rw [HRl.out]; omega)
          have hrg := bestF_range R
          rw [HRl.out] at hgr hrg
          have HG : Hid (X = if bestF R < 0 then S else giveF n (S.set (bestF R).toNat (S.getD (bestF R).toNat 0 + 1)) (R.set (bestF R).toNat (-1))) := by
            show X = _
            rw [HXZ.out, hn]; rfl
          clear HXZ
          generalize bestF R = bi at *
          obtain ⟨hbi1, hbi2⟩ := hrg
          unfold sl at hgr
          have HN := Hid.mk hn
          clear hn
          by_cases hneg : bi < 0
          · rw [if_pos hneg] at HG
            go_wp2_with fail
            refine hgr.mono ?_
            rintro e w5 ⟨rfl, hb5⟩
            go_wp2
            go_ret
            exact ⟨_, rfl, hbz.trans hb5, by rw [HG.out]; have := (HTZ.out.1.later hb5); unfold sl at this; rw [HSl.out] at this; exact this⟩
          · rw [if_neg hneg] at HG
            obtain ⟨j, hj⟩ : ∃ j : Nat, bi = (j : Int) := ⟨bi.toNat, by omega⟩
            subst hj
            have hjn : j < na := by omega
            go_wp2_with fail
            refine hgr.mono ?_
            rintro e w5 ⟨rfl, hb5⟩
            have hT5 := HTZ.out.later hb5
            have hjS : j < S.length := by rw [HSl.out]; exact hjn
            have k1 : w5.cell? ⟨ga, j, none⟩ = some (.int .i64 S[j]) := by
              rw [World.ownsRow.cellAt hT5.1 j (by omega)]; simp [hjS]
            have k2 := World.ownsRow.frozenAt hT5.1 j
            have k3 : ∃ y, w5.cell? ⟨gb, j, none⟩ = some y := by
              have hjR : j < R.length := by rw [HRl.out]; exact hjn
              exact ⟨_, by rw [World.ownsRow.cellAt hT5.2.1 j (by omega), List.getElem?_map, List.getElem?_eq_getElem hjR]; rfl⟩
            have k4 := World.ownsRow.frozenAt hT5.2.1 j
            obtain ⟨y, k3⟩ := k3
            have hne := hT5.2.2
            have hSj := HB2.out _ (List.getElem_mem hjS)
            have HJ : Hid (S.getD j 0 = S[j]) := by show S.getD j 0 = S[j]; rw [List.getD_eq_getElem?_getD, List.getElem?_eq_getElem hjS]; rfl
            have H5 := Hid.mk ((hT5.set1 j (S[j] + 1)).set2 j (-1))
            generalize S[j] = sj at *
            have hga := (World.ownsRow.lt hT5.1 ga rfl).1
            have hgb := (World.ownsRow.lt hT5.2.1 gb rfl).1
            clear hT5 HTZ hgr
            go_wp2
            go_roundg (l - 1).toNat
            case measure => omega
            case rel =>
              refine ⟨((hbz.trans hb5).step_set hga _).step_set hgb _, l - 1, S.set j (sj + 1), R.set j (-1), rfl, rfl, H5.out, by rw [List.length_set]; exact HSl.out, by rw [List.length_set]; exact HRl.out, ?_, by omega, by omega, ?_⟩
              · rw [HG.out, show (l - 1).toNat = n from by have := HN.out; omega]
                simp only [Int.toNat_natCast]
                rw [HJ.out]
              · intro x hx
                rcases List.mem_or_eq_of_mem_set hx with hx | rfl
                · have := HB2.out x hx; omega
                · omega
        · have HG : Hid (X = S) := by
            show X = S
            rw [HXZ.out, show l.toNat = 0 by omega]; rfl
          go_wp2
          go_ret
          exact ⟨_, rfl, hbz, by rw [HG.out]; have := HTZ.out.1; unfold sl at this; rw [HSl.out] at this; exact this⟩

end Go.Proofs.YtgfildmmcbjpnabGreat

namespace Go.Proofs.YtgfildmmcbjpnabGreat
open Go.RowKit

def OwnS (base g cap : Nat) (w : World) (S : List Int) : Prop := w.ownsRow base 75 2 (sl g S.length cap) S.length (icells (slotE S))
theorem slot_set (S : List Int) (k : Nat) (x : Int) : icells (slotE (S.set k x)) = (icells (slotE S)).set (k * 2 + 1) (.int .i64 x) := by
  induction S generalizing k with
  | nil => simp [slotE, icells]
  | cons s S ih =>
    cases k with
    | zero => simp [slotE, icells]
    | succ k =>
      have e : (k + 1) * 2 + 1 = k * 2 + 1 + 1 + 1 := by omega
      have := ih k
      simp only [slotE, icells, List.set_cons_succ, List.map_cons, List.flatMap_cons, List.cons_append, List.nil_append, e] at this ⊢
      rw [this]
theorem OwnS.set {base g cap : Nat} {w : World} {S : List Int} (h : OwnS base g cap w S) (k : Nat) (x : Int) : OwnS base g cap (w.setCell ⟨g, k * 2 + 1, none⟩ (.int .i64 x)) (S.set k x) := by
  have hs := World.ownsRow.stored h (k * 2 + 1) (.int .i64 x)
  unfold OwnS
  rw [slot_set, sl, List.length_set]
  exact hs.1
theorem OwnS.ents {base g cap : Nat} {w : World} {S : List Int} (h : OwnS base g cap w S) : EIAt w (sl g S.length cap) (slotE S) := by
  have := RowAt.of_owns h
  unfold EIAt
  rw [slotE_len]; exact this
theorem own_later {base : Nat} {e : TypeId} {s : Nat} {w w' : World} {v : Value} {n : Nat} {xs : List Value} (h : w.ownsRow base e s v n xs) (k : Bel w w') : w'.ownsRow base e s v n xs :=
  World.ownsRow.kept h (row := none) ⟨k.below.os, k.below.tape, k.below.output, k.size, fun j hj _ => k.block j hj⟩ (by
    cases hv : v.ownBlock
    · exact Or.inl rfl
    · exact Or.inr (by simp))
theorem giveF_len (n : Nat) (s r : List Int) : (giveF n s r).length = s.length := by
  induction n generalizing s r with
  | zero => rfl
  | succ n ih =>
    rw [giveF]
    split
    · rfl
    · rw [ih, List.length_set]
theorem sharesF_len (M : Int) (B : List BK) (h : 1 ≤ wSum B) : (sharesF M B).length = B.length := by
  rw [sharesF, if_neg (by omega), giveF_len, lowF, List.length_map]
theorem turnF_len (W : List (Int × Int)) (S : List Int) (i : Nat) : (turnF W S i).length = S.length := by
  unfold turnF
  split
  · rw [List.length_set]
  · rfl
theorem roundTo_len (W : List (Int × Int)) (sh : List Int) (r : Nat) (S : List Int) (n : Nat) : (roundTo W sh r S n).length = S.length := by
  induction n with
  | zero => rfl
  | succ n ih =>
    rw [roundTo]
    split
    · exact ih
    · rw [turnF_len, ih]
theorem fillTo_len (W : List (Int × Int)) (sh : List Int) (S : List Int) (n : Nat) : (fillTo W sh S n).length = S.length := by
  induction n with
  | zero => rfl
  | succ n ih => rw [fillTo, roundTo_len, ih]
theorem wayOf_range (c : Cfg) (b : BK) (hs : 3 ≤ c.slots) (hs2 : c.slots ≤ 211) : (0 ≤ (wayOf c b).1 ∧ (wayOf c b).1 < c.slots) ∧ 1 ≤ (wayOf c b).2 ∧ (wayOf c b).2 < c.slots := by
  have h1 := restF_range (hsh c.key 111 [] b.1) c.slots (by omega)
  have h2 := restF_range (hsh c.key 115 [] b.1) (c.slots - 1) (by omega)
  refine ⟨h1, ?_, ?_⟩ <;> simp only [wayOf] <;> omega
theorem freeF_lt {S : List Int} {y : Int × Int} {j : Nat} (h : freeF S y = some j) : j < S.length := by
  have hm := List.mem_of_find?_eq_some h
  obtain ⟨i, hi, rfl⟩ := List.mem_map.1 hm
  have : i < S.length := by simpa using hi
  exact stepOf_lt y i (by omega)
def REnts (w : World) (L : List EI) (e : Ending) (w' : World) : Prop := ∃ v, e = .returned v ∧ Bel w w' ∧ OwnE w.heap.size w' v L
/-- what the two inner loops keep -/
def Mag (w w1 : World) (g cap : Nat) (vW vS : Value) (W : List (Int × Int)) (sh : List Int) (S : List Int) (wr : World) : Prop :=
  Bel w wr ∧ OwnS (w.heap.size + 1) g cap wr S ∧ OwnW w1.heap.size wr vW W ∧ OwnI w1.heap.size wr vS sh ∧ g < w1.heap.size
theorem Mag.later {w w1 : World} {g cap : Nat} {vW vS : Value} {W : List (Int × Int)} {sh S : List Int} {wr wx : World} (h : Mag w w1 g cap vW vS W sh S wr) (k : Bel wr wx) : Mag w w1 g cap vW vS W sh S wx :=
  ⟨h.1.trans k, own_later h.2.1 k, own_later h.2.2.1 k, own_later h.2.2.2.1 k, h.2.2.2.2⟩
theorem Mag.set {w w1 : World} {g cap : Nat} {vW vS : Value} {W : List (Int × Int)} {sh S : List Int} {wr : World} (h : Mag w w1 g cap vW vS W sh S wr) (k : Nat) (x : Int) : Mag w w1 g cap vW vS W sh (S.set k x) (wr.setCell ⟨g, k * 2 + 1, none⟩ (.int .i64 x)) := by
  have hg := (World.ownsRow.lt h.2.1 g rfl).1
  exact ⟨h.1.step_set (by simp only; omega) _, h.2.1.set k x, ownsRow_setCell_below h.2.2.1 h.2.2.2.2 _, ownsRow_setCell_below h.2.2.2.1 h.2.2.2.2 _, h.2.2.2.2⟩

set_option maxRecDepth 100000 in
set_option maxHeartbeats 800000 in
theorem maglev_is (c : Cfg) (B : List BK) (v : Value) (w : World) (hP : PoolAt w v B) (hB : PoolOK B) (hc : c.OK) (hT : 1 ≤ wSum B) :
    Calls Tryz.prog 72 #[.agg c.cells, v] w (REnts w (slotE (maglevF c B))) := by
  obtain ⟨i0, hi, hz0, hz1, hz2⟩ := info_parts Tryz.infoEI
  have hways := fun wx hx => ways_is c B v wx hx hB hc
  obtain ⟨hs1, hs2, hk16⟩ : 3 ≤ c.slots ∧ c.slots ≤ 211 ∧ c.key.size = 16 := ⟨hc.2.2.1, hc.2.2.2.1, hc.2.2.2.2.2.2.2.2.2.1⟩
  have hsh := fun wx hx => shares_is c.slots B v wx hx hB (by omega) (by omega)
  have hshl := sharesF_len c.slots B hT
  have h8 := hB.1
  have hwy : ∀ y ∈ B.map (wayOf c), (0 ≤ y.1 ∧ y.1 ≤ 300) ∧ 0 ≤ y.2 ∧ y.2 ≤ 300 := by
    intro y hy
    obtain ⟨b, _, rfl⟩ := List.mem_map.1 hy
    have := wayOf_range c b hs1 hs2
    omega
  have hWl : (B.map (wayOf c)).length = B.length := by simp
  obtain ⟨M, hM⟩ : ∃ M : Nat, c.slots = (M : Int) := ⟨c.slots.toNat, by omega⟩
  obtain ⟨X, hX⟩ : ∃ X, X = maglevF c B := ⟨_, rfl⟩
  rw [← hX]
  rw [maglevF, hM, Int.toNat_natCast] at hX
  rw [hM] at hsh hshl
  generalize sharesF (M : Int) B = sh at *
  generalize B.map (wayOf c) = W at *
  have HX := Hid.mk hX
  obtain ⟨alg, slots, points, probes, key, formats⟩ := c
  simp only [Cfg.cells] at *
  subst hM
  clear hc hX hB
  go_enter Tryz.func72, Tryz.ntmps72
  go_wp2
  obtain ⟨wm, hwm⟩ : ∃ wm, wm = w.alloc (.cells #[.int .i64 alg, .int .i64 (M : Int), .int .i64 points, .int .i64 probes, .string key, .int .i64 formats] 30) := ⟨_, rfl⟩
  have m0 : wm.cell? ⟨w.heap.size, 0, none⟩ = some (.int .i64 alg) := by rw [hwm]; simp
  have m1 : wm.cell? ⟨w.heap.size, 1, none⟩ = some (.int .i64 (M : Int)) := by rw [hwm]; simp
  have m2 : wm.cell? ⟨w.heap.size, 2, none⟩ = some (.int .i64 points) := by rw [hwm]; simp
  have m3 : wm.cell? ⟨w.heap.size, 3, none⟩ = some (.int .i64 probes) := by rw [hwm]; simp
  have m4 : wm.cell? ⟨w.heap.size, 4, none⟩ = some (.string key) := by rw [hwm]; simp
  have m5 : wm.cell? ⟨w.heap.size, 5, none⟩ = some (.int .i64 formats) := by rw [hwm]; simp
  have hwb : Bel w wm := by rw [hwm]; exact (Bel.refl w).step_alloc _
  have hsz : wm.heap.size = w.heap.size + 1 := by rw [hwm]; simp
  rw [← hwm]
  clear hwm
  go_loopg [5, 6] M (fun r vL n wr => Bel wm wr ∧ ∃ (k : Nat), r = M - k ∧ k ≤ M ∧ n = .int .i64 k ∧ OwnE (w.heap.size + 1) wr vL (slotE (List.replicate k (-1))))
  case atStart => exact ⟨Bel.refl _, 0, by omega, by omega, rfl, World.ownsRow_nil _ _ _ _⟩
  case round =>
    obtain ⟨hb, k, hr, hk, rfl, hL⟩ := hrel
    have hwr := hb.size
    have hwl : w.heap.size < wr.heap.size := by omega
    have n1 := hb.cell m1
    have hk300 : k ≤ 300 := by omega
    have HO := Hid.mk hL
    clear hL
    by_cases hlt : k < M
    · have hLl : (slotE (List.replicate k (-1))).length = k := by rw [slotE_len, List.length_replicate]
      have HS : Hid (slotE (List.replicate (k + 1) (-1)) = slotE (List.replicate k (-1)) ++ [(0, -1)]) := by
        show slotE _ = _
        rw [List.replicate_succ', slotE, List.map_append]; rfl
      generalize slotE (List.replicate k (-1)) = L at *
      have hLk : L.length ≤ 300 := by omega
      have HLl := Hid.mk hLl
      clear hLl
      go_wp2_with (first | (at_builtin; refine wpList_append_own _ rfl _ _ 46 rfl (w.heap.size + 1) 75 i0 (.agg #[.int .u64 0, .int .i64 0]) 2 16 Tryz.underlying46 hi hz0 hz1 hz2 rfl (by decide) _ L.length (icells L) rfl ?p1 ⟨wr.heap.size, 0, none⟩ 1 1 [.int .u64 0, .int .i64 (-1)] rfl rfl ?d1 ?d2 ?d3 ?d4 ?d5 ?_))
      case p1 => exact World.ownsRow.alloc HO.out _
      try (case d1 => exact two_new _ _ _ _ _ (by simp))
      case d2 => first | exact ⟨rfl, rfl⟩ | exact two_one rfl rfl
      case d3 => unfold maxLen; omega
      case d4 => omega
      case d5 => first | omega | (simp; omega)
      intro v2 w2 hown2 hgrow2 _
      have hb2 : Bel wm w2 := (hb.step_alloc _).grown hgrow2 (fun g hg => by have := (World.ownsRow.lt HO.out g hg).1; omega)
      have H2 := Hid.mk (OwnE.snoc (b := (0, -1)) hown2 rfl)
      clear hown2 hgrow2
      go_wp2
      go_roundg (M - (k + 1))
      case measure => omega
      case rel => exact ⟨hb2, k + 1, rfl, by omega, by go_num, by rw [HS.out]; exact H2.out⟩
    · obtain rfl : k = M := by omega
      have hLl : (slotE (List.replicate k (-1))).length = k := by rw [slotE_len, List.length_replicate]
      obtain ⟨g, cap, hv5, hg1, hg2⟩ := World.ownsRow.form HO.out (by rw [hLl]; omega)
      subst hv5
      rw [hLl] at HO ⊢
      have n0 := hb.cell m0
      have n2 := hb.cell m2
      have n3 := hb.cell m3
      have n4 := hb.cell m4
      have n5 := hb.cell m5
      have hbw := hwb.trans hb
      go_wp2_with fail
      refine (hways _ (hP.later hbw)).mono ?_
      rintro e w2 ⟨vW, rfl, hb2, hW2⟩
      have p1 := hb2.cell n1
      go_wp2_with fail
      refine (hsh _ (hP.later (hbw.trans hb2))).mono ?_
      rintro e w3 ⟨vS, rfl, hb3, hS3⟩
      have hw23 := hb2.size
      obtain ⟨wb, hwbr⟩ : ∃ wb, wb = wr := ⟨_, rfl⟩
      have hMag : Mag w wb g cap vW vS W sh (List.replicate k (-1)) w3 := by
        rw [hwbr]
        refine ⟨hbw.trans (hb2.trans hb3), ?_, own_later hW2 hb3, World.ownsRow.mono hS3 hw23, hg2⟩
        have := own_later HO.out (hb2.trans hb3)
        unfold OwnS sl
        rw [List.length_replicate]
        simpa [hLl] using this
      have p1 := hb3.cell p1
      have hb13 := hb2.trans hb3
      obtain ⟨aW, capW, hvW, hcW⟩ : ∃ aW cW, vW = .slice aW B.length cW ∧ ∀ wx, OwnW wb.heap.size wx vW W → ∀ j (hj : j < W.length), ∃ gw, aW = some ⟨gw, 0, none⟩ ∧ wx.cell? ⟨gw, j * 2, none⟩ = some (.int .i64 W[j].1) ∧ wx.cell? ⟨gw, j * 2 + 1, none⟩ = some (.int .i64 W[j].2) := by
        obtain ⟨gw, cw, hv, _, _⟩ := World.ownsRow.form hW2 (by rw [hWl]; exact Nat.pos_of_ne_zero (fun e => by
          have : B = [] := List.eq_nil_of_length_eq_zero e
          subst this; simp [wSum] at hT))
        rw [hWl] at hv
        refine ⟨_, cw, hv, fun wx hx j hj => ⟨gw, rfl, ?_, ?_⟩⟩
        · have := World.ownsRow.cells hx (g := gw) (by rw [hv]; rfl) (j * 2) _ (wcells_get W j hj).1
          rwa [show (⟨gw, 0, none⟩ : Addr).add (j * 2) = ⟨gw, j * 2, none⟩ by unfold Addr.add; split <;> simp_all] at this
        · have := World.ownsRow.cells hx (g := gw) (by rw [hv]; rfl) (j * 2 + 1) _ (wcells_get W j hj).2
          rwa [show (⟨gw, 0, none⟩ : Addr).add (j * 2 + 1) = ⟨gw, j * 2 + 1, none⟩ by unfold Addr.add; split <;> simp_all] at this
      obtain ⟨aS, capS, hvS, hcS⟩ : ∃ aS cS, vS = .slice aS B.length cS ∧ ∀ wx, OwnI wb.heap.size wx vS sh → ∀ j (hj : j < sh.length), ∃ gs, aS = some ⟨gs, 0, none⟩ ∧ wx.cell? ⟨gs, j, none⟩ = some (.int .i64 sh[j]) := by
        obtain ⟨gs, cs, hv, _, _⟩ := World.ownsRow.form hS3 (by rw [hshl]; exact Nat.pos_of_ne_zero (fun e => by
          have : B = [] := List.eq_nil_of_length_eq_zero e
          subst this; simp [wSum] at hT))
        rw [hshl] at hv
        refine ⟨_, cs, hv, fun wx hx j hj => ⟨gs, rfl, ?_⟩⟩
        have := World.ownsRow.cells hx (g := gs) (by rw [hv]; rfl) j (.int .i64 sh[j]) (by simp [hj])
        rwa [show (⟨gs, 0, none⟩ : Addr).add j = ⟨gs, j, none⟩ by unfold Addr.add; split <;> simp_all] at this
      subst hvW
      subst hvS
      clear hwbr n0 n2 n3 n4 n5 hb2 hb3 hW2 hS3 hways hsh HO hLl hw23 m0 m1 m2 m3 m4 m5
      go_wp2
      clear hk hr hlt hk300 hwr hwl hbw hb13 n1
      obtain ⟨S0, hS0⟩ : ∃ S0 : List Int, S0 = List.replicate k (-1) := ⟨_, rfl⟩
      have hS0l : S0.length = k := by rw [hS0]; simp
      rw [← hS0] at HX hMag
      clear hS0
      go_loopg [9] k (fun r n wr => ∃ q : Nat, r = k - q ∧ q ≤ k ∧ n = .int .i64 q ∧ Mag w wb g cap (.slice aW B.length capW) (.slice aS B.length capS) W sh (fillTo W sh S0 q) wr ∧ wr.cell? ⟨w.heap.size, 1, none⟩ = some (.int .i64 (k : Int)))
      case atStart => exact ⟨0, by omega, by omega, rfl, hMag, p1⟩
      case round =>
        obtain ⟨q, hr2, hq, rfl, hMg, o1⟩ := hrel
        have HM := Hid.mk hMg
        clear hMg hMag p1
        by_cases hlt : q < k
        · have hd : decide ((q : Int) < (k : Int)) = true := decide_eq_true (by omega)
          have HF : Hid (fillTo W sh S0 (q + 1) = roundTo W sh q (fillTo W sh S0 q) sh.length) := rfl
          have hSq : (fillTo W sh S0 q).length = k := by rw [fillTo_len, hS0l]
          have HX2 := HX
          generalize fillTo W sh S0 q = Sq at *
          go_wp2
          go_loopg [38] sh.length (fun r n wr => ∃ i : Nat, r = sh.length - i ∧ i ≤ sh.length ∧ n = .int .i64 i ∧ Mag w wb g cap (.slice aW B.length capW) (.slice aS B.length capS) W sh (roundTo W sh q Sq i) wr ∧ wr.cell? ⟨w.heap.size, 1, none⟩ = some (.int .i64 (k : Int)))
          case atStart => exact ⟨0, by omega, by omega, rfl, HM.out, o1⟩
          case round =>
            obtain ⟨i, hr3, hi3, rfl, hMi, o2⟩ := hrel
            by_cases hil : i < sh.length
            · have hil2 : i < B.length := by omega
              have hiW : i < W.length := by omega
              obtain ⟨gs, haS, s0⟩ := hcS _ hMi.2.2.2.1 i hil
              obtain ⟨gw, haW, y0, y1⟩ := hcW _ hMi.2.2.1 i hiW
              obtain ⟨⟨hy1, hy2⟩, hy3, hy4⟩ := hwy _ (List.getElem_mem hiW)
              have HR : Hid (roundTo W sh q Sq (i + 1) = if sh[i] ≤ q then roundTo W sh q Sq i else turnF W (roundTo W sh q Sq i) i) := by
                show roundTo W sh q Sq (i + 1) = _
                rw [roundTo, List.getD_eq_getElem?_getD, List.getElem?_eq_getElem hil]; rfl
              have hRl : (roundTo W sh q Sq i).length = k := by rw [roundTo_len, hSq]
              have hff := fun wx hx => firstFree_is (roundTo W sh q Sq i) (sl g (roundTo W sh q Sq i).length cap) W[i] wx hx (by omega) hy1 hy2 hy3 hy4
              have HT : Hid (turnF W (roundTo W sh q Sq i) i = match freeF (roundTo W sh q Sq i) W[i] with | some k => (roundTo W sh q Sq i).set k i | none => roundTo W sh q Sq i) := by
                show turnF _ _ _ = _
                rw [turnF, List.getD_eq_getElem?_getD, List.getElem?_eq_getElem hiW]; rfl
              have HMi := Hid.mk hMi
              have hff := hff _ hMi.2.1.ents
              have hfl := fun j => freeF_lt (S := roundTo W sh q Sq i) (y := W[i]) (j := j)
              rw [hRl] at hff hfl
              unfold sl at hff
              clear hMi
              generalize roundTo W sh q Sq i = Si at *
              generalize W[i] = yw at *
              generalize sh[i] = shi at *
              obtain ⟨yo, yk⟩ := yw
              simp only at y0 y1 hff HT hy1 hy2 hy3 hy4
              subst haS
              subst haW
              by_cases hge : shi ≤ (q : Int)
              · rw [if_pos hge] at HR
                have hdg : decide ((q : Int) ≥ shi) = true := decide_eq_true hge
                go_wp2
                go_roundg (sh.length - (i + 1))
                case measure => omega
                case rel => exact ⟨i + 1, rfl, by omega, by go_num, by rw [HR.out]; exact HMi.out, o2⟩
              · rw [if_neg hge, HT.out] at HR
                have hdg : decide ((q : Int) ≥ shi) = false := decide_eq_false hge
                generalize freeF Si (yo, yk) = ff at *
                go_wp2_with fail
                refine hff.mono ?_
                rintro e w5 ⟨rfl, hb5⟩
                have o5 := hb5.cell o2
                have HM5 := Hid.mk (HMi.out.later hb5)
                cases ff with
                | none =>
                  simp only [freeI]
                  simp only at HR
                  go_wp2
                  go_roundg (sh.length - (i + 1))
                  case measure => omega
                  case rel => exact ⟨i + 1, rfl, by omega, by go_num, by rw [HR.out]; exact HM5.out, o5⟩
                | some j =>
                  have hj := hfl j rfl
                  simp only [freeI]
                  simp only at HR
                  have k1 : ∃ y, w5.cell? ⟨g, j * 2 + 1, none⟩ = some y := by
                    have hjl : j < (slotE Si).length := by rw [slotE_len, hRl]; exact hj
                    exact ⟨_, by rw [World.ownsRow.cellAt HM5.out.2.1 (j * 2 + 1) (by rw [hRl]; omega)]; exact (icells_get _ j hjl).2⟩
                  have k2 := World.ownsRow.frozenAt HM5.out.2.1 (j * 2 + 1)
                  obtain ⟨y, k1⟩ := k1
                  have hgw : w.heap.size + 1 ≤ g := (World.ownsRow.lt HM5.out.2.1 g rfl).1
                  go_wp2
                  go_roundg (sh.length - (i + 1))
                  case measure => omega
                  case rel => exact ⟨i + 1, rfl, by omega, by go_num, by rw [HR.out]; exact HM5.out.set j _, by rw [set_other (by simp; omega)]; exact o5⟩
            · obtain rfl : i = sh.length := by omega
              have HMi := Hid.mk hMi
              clear hMi
              go_wp2
              go_roundg (k - (q + 1))
              case measure => omega
              case rel => exact ⟨q + 1, rfl, by omega, by go_num, by rw [HF.out]; exact HMi.out, o2⟩
        · obtain rfl : q = k := by omega
          have HFi := Hid.mk HM.out.2.1
          have hbf := HM.out.1
          rw [← HX.out] at HFi
          have hXl : X.length = q := by rw [HX.out, fillTo_len, hS0l]
          go_wp2
          go_ret
          exact ⟨_, rfl, hbf, by have := HFi.out; unfold OwnS at this; unfold OwnE; rw [slotE_len]; rw [sl, hXl] at this; rw [hXl]; exact World.ownsRow.mono this (by omega)⟩

end Go.Proofs.YtgfildmmcbjpnabGreat
