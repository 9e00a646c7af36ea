import Derived.Test.YtgfildmmcbjpnabGreatLAW
import Derived.Test.YtgfildmmcbjpnabGreatLAX
import Derived.Deep.QuietTactic
import Derived.BigQuiet
import Derived.Deep.RegionWith
namespace Go.Proofs.YtgfildmmcbjpnabGreat
open Go.RowKit

/-- the document's shares: where nothing weighs, noughts -/
def shF (m : Int) (B : List BK) : List Int := if wSum B < 1 then List.replicate B.length 0 else sharesF m B
theorem bestTo_spec2 (R : List Int) (n : Nat) : ((bestTo R n).1 = -1 ∧ (bestTo R n).2 = -1) ∨ ∃ k : Nat, k < n ∧ (bestTo R n).1 = k ∧ (bestTo R n).2 = R.getD k 0 ∧ 0 ≤ R.getD k 0 := by
  induction n with
  | zero => exact Or.inl ⟨rfl, rfl⟩
  | succ n ih =>
    simp only [bestTo]
    split
    · rename_i hlt
      refine Or.inr ⟨n, by omega, rfl, rfl, ?_⟩
      have := (bestTo_spec R n).2.1
      omega
    · rcases ih with h | ⟨k, h1, h2⟩
      · exact Or.inl h
      · exact Or.inr ⟨k, by omega, h2⟩
theorem share_arith {m wt W : Int} (hm1 : 0 ≤ m) (hm2 : m ≤ 300) (hw1 : 0 ≤ wt) (hw2 : wt ≤ 6) (hW : 0 < W) : ∃ q x y : Int, q = m * wt / W ∧ x = m * wt ∧ (wrap64 (m * wt) = x ∧ IntKind.i64.wrap (m * wt) = x) ∧ (wrap64 (q * W) = y ∧ IntKind.i64.wrap (q * W) = y) ∧ (wrap64 (x.tdiv W) = q ∧ IntKind.i64.wrap (x.tdiv W) = q) ∧ (wrap64 (x - y) = m * wt % W ∧ IntKind.i64.wrap (x - y) = m * wt % W) ∧ 0 ≤ q ∧ q ≤ 1800 := by
  have a1 : 0 ≤ m * wt := Int.mul_nonneg hm1 hw1
  have a2 : m * wt ≤ 300 * 6 := Int.mul_le_mul hm2 hw2 hw1 (by omega)
  have a3 : 0 ≤ m * wt / W := Int.ediv_nonneg a1 (by omega)
  have a4 : m * wt / W ≤ m * wt := Int.ediv_le_self _ a1
  have a5 : m * wt / W * W ≤ m * wt := Int.ediv_mul_le _ (by omega)
  have a6 : 0 ≤ m * wt / W * W := Int.mul_nonneg a3 (by omega)
  have a7 : (m * wt).tdiv W = m * wt / W := Int.tdiv_eq_ediv_of_nonneg a1
  have a8 : m * wt % W = m * wt - m * wt / W * W := by have := Int.mul_ediv_add_emod (m * wt) W; rw [Int.mul_comm W] at this; omega
  refine ⟨m * wt / W, m * wt, m * wt / W * W, rfl, rfl, ?_⟩
  rw [a7, a8]
  generalize m * wt / W * W = y at *
  generalize m * wt / W = z at *
  generalize m * wt = x at *
  unfold wrap64
  simp only [IntKind.wrap_i64]
  omega
theorem give_enough (M : Int) (B : List BK) (hW : 1 ≤ wSum B) : (lowF M B).sum ≤ M ∧ (M - (lowF M B).sum).toNat ≤ (remF M B).countP (fun x => decide (0 < x)) := by
  have e1 := low_rem M (wSum B) B
  rw [sum_mulc] at e1
  have e2 := rem_le (wSum B) (remF M B) (by
    intro x hx
    obtain ⟨b, hb, rfl⟩ := List.mem_map.1 hx
    exact ⟨Int.emod_nonneg _ (by omega), Int.emod_lt_of_pos _ (by omega)⟩)
  have e3 : M * wSum B = wSum B * (lowF M B).sum + (remF M B).sum := e1
  have e4 : wSum B * (M - (lowF M B).sum) = (remF M B).sum := by rw [Int.mul_sub, Int.mul_comm (wSum B) M]; omega
  have e5 : 0 ≤ M - (lowF M B).sum := by
    rcases Int.lt_or_le (M - (lowF M B).sum) 0 with h | h
    · have := Int.mul_neg_of_pos_of_neg (show 0 < wSum B by omega) h
      omega
    · exact h
  have e6 : M - (lowF M B).sum ≤ ((remF M B).countP fun x => decide (0 < x) : Nat) := by
    refine Int.le_of_mul_le_mul_left (a := wSum B) ?_ (by omega)
    omega
  exact ⟨by omega, by omega⟩
theorem give_one {t : Nat} {O R X : List Int} {k : Nat} (hk : bestF R = (k : Int)) (hkO : k < O.length) (hkR : k < R.length) (hp : 0 < R[k]) (hg : giveF (t + 1) O R = X) (hc : t + 1 ≤ R.countP (fun x => decide (0 < x))) : giveF t (O.set k (O[k] + 1)) (R.set k (-1)) = X ∧ t ≤ (R.set k (-1)).countP (fun x => decide (0 < x)) := by
  rw [giveF, hk, if_neg (by omega), Int.toNat_natCast, List.getD_eq_getElem?_getD, List.getElem?_eq_getElem hkO] at hg
  refine ⟨hg, ?_⟩
  have h4 : decide (0 < R[k]) = true := decide_eq_true hp
  rw [List.countP_set hkR, h4]
  simp
  omega
theorem OwnI.made {base : Nat} {w : World} {g n : Nat} (h : w.ownsRow base 3 1 (.slice (some ⟨g, 0, none⟩) n n) n (madeCells #[Value.int .i64 0] n).toList) : OwnI base w (sl g (List.replicate n (0 : Int)).length n) (List.replicate n 0) := by
  unfold OwnI sl
  rw [List.length_replicate, List.map_replicate, ← toList_madeCells_one]
  exact h
/-- loop 2: the first k have theirs -/
def LS2 (w : World) (B : List BK) (m : Int) (ga gb : Nat) (r : Nat) (n i : Value) (wr : World) : Prop := Bel w wr ∧ ∃ (k : Nat) (O R : List Int) (s : Int), r = B.length - k ∧ k ≤ B.length ∧ i = .int .i64 k ∧ n = .int .i64 s ∧ TwoI w.heap.size ga gb B.length B.length wr O R ∧ O.length = B.length ∧ R.length = B.length ∧
  O.take k = (lowF m B).take k ∧ R.take k = (remF m B).take k ∧ s = ((lowF m B).take k).sum ∧ 0 ≤ s ∧ s ≤ 1800 * k ∧ ∀ x ∈ O, 0 ≤ x ∧ x ≤ 1800
/-- loop 3: so many are still to be given -/
def LS3 (w : World) (B : List BK) (m : Int) (X : List Int) (ga gb : Nat) (r : Nat) (n : Value) (wr : World) : Prop := Bel w wr ∧ ∃ (O R : List Int) (s : Int), r = (m - s).toNat ∧ 0 ≤ s ∧ s ≤ m ∧ n = .int .i64 s ∧ TwoI w.heap.size ga gb B.length B.length wr O R ∧ O.length = B.length ∧ R.length = B.length ∧ giveF (m - s).toNat O R = X ∧ (m - s).toNat ≤ R.countP (fun x => decide (0 < x)) ∧ ∀ x ∈ O, 0 ≤ x ∧ x ≤ 2100 - (m - s)

set_option maxRecDepth 100000 in
set_option maxHeartbeats 1000000 in
theorem rshares_is (B : List BK) (v : Value) (m : Int) (w : World) (hP : PoolAt w v B) (hB : PoolOK B) (hm1 : 0 ≤ m) (hm2 : m ≤ 300) :
    Calls Tryz.prog 118 #[v, .int .i64 m] w (RInts w (shF m B)) := by
  obtain ⟨i0, hi, hz0, hz1, hz2⟩ := info_parts Tryz.infoInt
  obtain ⟨h8, hall⟩ := hB
  obtain ⟨ao, cap, rfl, hc⟩ := hP.open
  obtain ⟨W, hW⟩ : ∃ W, W = wSum B := ⟨_, rfl⟩
  have HW := Hid.mk hW
  obtain ⟨X, hX⟩ : ∃ X, X = shF m B := ⟨_, rfl⟩
  rw [← hX]
  have HX := Hid.mk hX
  clear hW hX
  go_enter Tryz.func118, Tryz.ntmps118
  go_wp2
  go_loopg [5, 6] B.length (fun r s n wr => w = wr ∧ ∃ k : Nat, r = B.length - k ∧ k ≤ B.length ∧ n = .int .i64 k ∧ s = .int .i64 (wSum (B.take k)))
  case atStart => exact ⟨rfl, 0, by omega, by omega, rfl, rfl⟩
  case round =>
    obtain ⟨rfl, k, hr, hk, rfl, rfl⟩ := hrel
    have hbd := wSum_bound B (fun b hb => (hall b hb).2.2) k
    have hk8 : k ≤ 8 := by omega
    by_cases hlt : k < B.length
    · obtain ⟨g, rfl, c0, c1⟩ := hc k hlt
      have HS : Hid (wSum (B.take (k + 1)) = wSum (B.take k) + B[k].2) := wSum_take B k hlt
      have hw := (hall _ (List.getElem_mem hlt)).2.2
      clear hc
      generalize B[k].1 = idk at *
      generalize B[k].2 = wk at *
      generalize wSum (B.take k) = sk at *
      obtain ⟨hw1, hw2⟩ := hw
      obtain ⟨hb1, hb2⟩ := hbd
      go_wp2
      go_roundg (B.length - (k + 1))
      case measure => omega
      case rel => exact ⟨rfl, k + 1, rfl, by omega, by go_num, by rw [HS.out]⟩
    · have HE : wSum (B.take k) = W := by rw [List.take_of_length_le (by omega)]; exact HW.out.symm
      rw [HE] at hbd ⊢
      clear HE
      have hb8 : B.length ≤ 8 := h8
      go_wp2_with (first | (at_make; refine wpList_make_full _ rfl _ _ 107 rfl w.heap.size 3 i0 (.int .i64 0) 1 Tryz.underlying107 hi hz0 hz1 _ _ _ _ B.length rfl rfl rfl rfl ?b2 ?b3 ?b4 ?_))
      case b2 => first | omega | (rw [hz2]; omega)
      case b3 => unfold maxLen; omega
      case b4 => exact Nat.le_refl _
      intro w1 hown1 hg1
      have hb1 : Bel w w1 := (Bel.refl _).grown hg1 (fun g hg => by cases hg)
      have hlt1 : w.heap.size < w1.heap.size := (World.ownsRow.lt hown1 _ rfl).2
      have ho1 := OwnI.made hown1
      clear hg1 hown1
      go_wp2_with (first | (at_make; refine wpList_make_full _ rfl _ _ 107 rfl w.heap.size 3 i0 (.int .i64 0) 1 Tryz.underlying107 hi hz0 hz1 _ _ _ _ B.length rfl rfl rfl rfl ?c2 ?c3 ?c4 ?_))
      case c2 => first | omega | (rw [hz2]; omega)
      case c3 => unfold maxLen; omega
      case c4 => omega
      intro w2 hown2 hg2
      have hb2 : Bel w1 w2 := (Bel.refl _).grown hg2 (fun g hg => by cases hg)
      have ho2 := OwnI.made hown2
      have hT0 : TwoI w.heap.size w.heap.size w1.heap.size B.length B.length w2 (List.replicate B.length 0) (List.replicate B.length 0) := ⟨ho1.later hb2, ho2, by omega⟩
      have hbb : Bel w w2 := hb1.trans hb2
      clear hg2 hown2 ho1 ho2 hb1 hb2 hlt1
      generalize w1.heap.size = gb at *
      generalize hga : w.heap.size = ga at *
      by_cases hW0 : 0 < W
      · have hWb : decide (W > 0) = true := decide_eq_true hW0
        have HX2 : Hid (X = sharesF m B) := by show X = _; rw [HX.out, shF, if_neg (by rw [← HW.out]; omega)]
        go_wp2
        go_loopg [9, 10] B.length (LS2 w B m ga gb)
        case atStart => exact ⟨hbb, 0, _, _, 0, by omega, by omega, rfl, rfl, by rw [hga]; exact hT0, by simp, by simp, by simp, by simp, by simp, by omega, by omega, fun x hx => by have := List.eq_of_mem_replicate hx; omega⟩
        case round =>
          clear hT0 hbb
          obtain ⟨hb, k, O, R, s, hr, hk, rfl, rfl, hT, hOl, hRl, hO, hR, hs, hs0, hs1, hbd2⟩ := hrel
          have hk8 : k ≤ 8 := by omega
          by_cases hlt : k < B.length
          · obtain ⟨g, rfl, c0, c1⟩ := hc k hlt
            have c1' := hb.cell c1
            obtain ⟨hw1, hw2⟩ := (hall _ (List.getElem_mem hlt)).2.2
            obtain ⟨q, x, y, hq, hx, ⟨m1, m2⟩, ⟨y1, y2⟩, ⟨q1, q2⟩, ⟨z1, z2⟩, hq0, hq1⟩ := share_arith hm1 hm2 hw1 hw2 hW0
            have HA : Hid ((lowF m B).take (k + 1) = (lowF m B).take k ++ [q]) := by
              show List.take _ _ = _
              rw [List.take_succ_eq_append_getElem (by simp [lowF]; exact hlt), hq]
              simp only [lowF, List.getElem_map, HW.out]
            have HB : Hid ((remF m B).take (k + 1) = (remF m B).take k ++ [m * B[k].2 % W]) := by
              show List.take _ _ = _
              rw [List.take_succ_eq_append_getElem (by simp [remF]; exact hlt)]
              simp only [remF, List.getElem_map, HW.out]
            clear hq hc c0 hx
            generalize B[k].2 = wk at *
            generalize m * wk % W = z at *
            have HOR : Hid (O.length = B.length ∧ R.length = B.length ∧ O.take k = (lowF m B).take k ∧ R.take k = (remF m B).take k ∧ s = ((lowF m B).take k).sum ∧ ∀ x ∈ O, 0 ≤ x ∧ x ≤ 1800) := ⟨hOl, hRl, hO, hR, hs, hbd2⟩
            have hT' := hT.set1 k q
            have d1 : ∃ u, wr.cell? ⟨ga, k, none⟩ = some u := ⟨_, (World.ownsRow.cellAt hT.1 k (by omega)).trans (by rw [List.getElem?_map, List.getElem?_eq_getElem (by omega)]; rfl)⟩
            obtain ⟨u1, d1⟩ := d1
            have e1 := World.ownsRow.frozenAt hT.1 k
            clear hT hOl hRl hO hR hs hbd2
            have hWz : (W == 0) = false := by rw [beq_eq_false_iff_ne]; omega
            go_wp2_with fail
            have hbw : Bel w (wr.setCell ⟨ga, k, none⟩ (.int .i64 q)) := hb.step_set (by rw [hga]; exact Nat.le_refl _) _
            have f1 : (wr.setCell ⟨ga, k, none⟩ (.int .i64 q)).cell? ⟨ga, k, none⟩ = some (.int .i64 q) := set_same d1
            have b2 := hbw.cell c1
            have d2 : ∃ u, (wr.setCell ⟨ga, k, none⟩ (.int .i64 q)).cell? ⟨gb, k, none⟩ = some u := ⟨_, (World.ownsRow.cellAt hT'.2.1 k (by have := HOR.out.2.1; omega)).trans (by rw [List.getElem?_map, List.getElem?_eq_getElem (by have := HOR.out.2.1; omega)]; rfl)⟩
            obtain ⟨u2, d2⟩ := d2
            have e2 := World.ownsRow.frozenAt hT'.2.1 k
            have hgn : gb ≠ ga := hT'.2.2.symm
            have HT' := Hid.mk hT'
            have hgb : w.heap.size ≤ gb := (World.ownsRow.lt hT'.2.1 gb rfl).1
            clear hT' d1 e1 hb c1' m1
            generalize wr.setCell ⟨ga, k, none⟩ (.int .i64 q) = wq at *
            go_region_with fail
            all_goals
              go_wp2_with fail
              go_roundg (B.length - (k + 1))
              case measure => omega
              case rel =>
                refine ⟨Bel.trans (hbw.step_set (p := ⟨gb, k, none⟩) hgb (.int .i64 z)) (by (repeat (first | exact Bel.refl _ | assumption | refine Bel.step_alloc ?_ _ | refine Bel.step_drew ?_ | refine Bel.step_drewN ?_ _ | refine Bel.step_set ?_ (by simp <;> omega) _ | refine Bel.trans ?_ (by assumption)))), k + 1, O.set k q, R.set k z, s + q, rfl, by omega, by go_num, by go_num, (HT'.out.set2 k z).later (by (repeat (first | exact Bel.refl _ | assumption | refine Bel.step_alloc ?_ _ | refine Bel.step_drew ?_ | refine Bel.step_drewN ?_ _ | refine Bel.step_set ?_ (by simp <;> omega) _ | refine Bel.trans ?_ (by assumption)))), by rw [List.length_set]; exact HOR.out.1, by rw [List.length_set]; exact HOR.out.2.1, ?_, ?_, ?_, by omega, by omega, ?_⟩
                · rw [List.take_succ_eq_append_getElem (by rw [List.length_set, HOR.out.1]; exact hlt), List.take_set_of_le (Nat.le_refl k), List.getElem_set_self, HOR.out.2.2.1, HA.out]
                · rw [List.take_succ_eq_append_getElem (by rw [List.length_set, HOR.out.2.1]; exact hlt), List.take_set_of_le (Nat.le_refl k), List.getElem_set_self, HOR.out.2.2.2.1, HB.out]
                · rw [HA.out, HOR.out.2.2.2.2.1]; simp
                · intro x hx
                  rcases List.mem_or_eq_of_mem_set hx with h | h
                  · exact HOR.out.2.2.2.2.2 x h
                  · omega
          · obtain rfl : k = B.length := by omega
            have HO : Hid (O = lowF m B) := by
              show O = _
              rw [List.take_of_length_le (by omega), List.take_of_length_le (by simp [lowF])] at hO; exact hO
            have HR : Hid (R = remF m B) := by
              show R = _
              rw [List.take_of_length_le (by omega), List.take_of_length_le (by simp [remF])] at hR; exact hR
            have hsl : s = (lowF m B).sum := by rw [hs, List.take_of_length_le (by simp [lowF])]
            obtain ⟨hen1, hen2⟩ := give_enough m B (by rw [← HW.out]; omega)
            rw [← hsl] at hen1 hen2
            have H3 : Hid (LS3 w B m X ga gb (m - s).toNat (.int .i64 s) wr) := ⟨hb, O, R, s, rfl, hs0, hen1, rfl, hT, hOl, hRl, by
              rw [HX2.out, sharesF, if_neg (by rw [← HW.out]; omega), HO.out, HR.out, hsl], by rw [HR.out]; exact hen2, fun x hx => ⟨(hbd2 x hx).1, by have := (hbd2 x hx).2; omega⟩⟩
            clear hT hOl hRl hO hR hs hbd2 hb hsl hen1 hen2 HO HR hs0 hs1
            go_wp2
            go_loopg [9] (m - s).toNat (LS3 w B m X ga gb)
            case atStart => exact H3.out
            case round =>
              clear H3 s
              obtain ⟨hb, O, R, s, hr, hs0, hsm, rfl, hT, hOl, hRl, hg, hcnt, hbd2⟩ := hrel
              by_cases hlt2 : s < m
              · have hsb : decide (s < m) = true := decide_eq_true hlt2
                have HT := Hid.mk hT
                have HG : Hid (giveF (m - s).toNat O R = X ∧ (m - s).toNat ≤ R.countP (fun x => decide (0 < x)) ∧ (∀ x ∈ O, 0 ≤ x ∧ x ≤ 2100 - (m - s)) ∧ O.length = B.length) := ⟨hg, hcnt, hbd2, hOl⟩
                clear hT hg hcnt hbd2 hOl
                go_wp2
                generalize wr = wo at *
                go_loopg [11, 12] B.length (fun r kv i wx => Bel wo wx ∧ ∃ j : Nat, r = B.length - j ∧ j ≤ B.length ∧ i = .int .i64 j ∧ kv = .int .i64 (bestTo R j).1)
                case atStart => exact ⟨Bel.refl _, 0, by omega, by omega, rfl, rfl⟩
                case round =>
                  obtain ⟨hbx, j, hrj, hj, rfl, rfl⟩ := hrel
                  have hTx := HT.out.later hbx
                  by_cases hjl : j < B.length
                  · have hjb : decide ((j : Int) < (B.length : Int)) = true := decide_eq_true (by omega)
                    have hjR : j < R.length := by omega
                    have hgD : R.getD j 0 = R[j] := by rw [List.getD_eq_getElem?_getD, List.getElem?_eq_getElem hjR]; rfl
                    have d1 : wr.cell? ⟨gb, j, none⟩ = some (.int .i64 R[j]) := (World.ownsRow.cellAt hTx.2.1 j (by omega)).trans (by rw [List.getElem?_map, List.getElem?_eq_getElem hjR]; rfl)
                    have HN : Hid ((bestTo R (j + 1)).1 = if (bestTo R j).2 < R[j] then (j : Int) else (bestTo R j).1) := by
                      show (bestTo R (j + 1)).1 = _
                      rw [bestTo, hgD]; split <;> rfl
                    have hm1' := (bestTo_spec R j).2.1
                    rcases bestTo_spec2 R j with ⟨b1, b2⟩ | ⟨kk, hkk, b1, b2, b3⟩
                    · rw [b1] at HN ⊢
                      rw [b2] at HN
                      clear hTx b1 b2 hgD hm1'
                      generalize R[j] = rj at *
                      by_cases hp : 0 ≤ rj
                      · have hpb : decide (rj ≥ 0) = true := decide_eq_true hp
                        have HN2 : Hid ((bestTo R (j + 1)).1 = j) := by show (bestTo R (j + 1)).1 = _; rw [HN.out, if_pos (by omega)]
                        go_wp2_with fail
                        go_quiet (fail)
                        go_wp2
                        go_roundg (B.length - (j + 1))
                        case measure => omega
                        case rel => exact ⟨by (repeat (first | exact Bel.refl _ | assumption | refine Bel.step_alloc ?_ _ | refine Bel.step_drew ?_ | refine Bel.step_drewN ?_ _ | refine Bel.step_set ?_ (by simp <;> omega) _ | refine Bel.trans ?_ (by assumption))), j + 1, rfl, by omega, by go_num, by rw [HN2.out]⟩
                      · have hpb : decide (rj ≥ 0) = false := decide_eq_false hp
                        have HN2 : Hid ((bestTo R (j + 1)).1 = -1) := by show (bestTo R (j + 1)).1 = _; rw [HN.out, if_neg (by omega)]
                        go_wp2_with fail
                        go_quiet (fail)
                        go_wp2
                        go_roundg (B.length - (j + 1))
                        case measure => omega
                        case rel => exact ⟨by (repeat (first | exact Bel.refl _ | assumption | refine Bel.step_alloc ?_ _ | refine Bel.step_drew ?_ | refine Bel.step_drewN ?_ _ | refine Bel.step_set ?_ (by simp <;> omega) _ | refine Bel.trans ?_ (by assumption))), j + 1, rfl, by omega, by go_num, by rw [HN2.out]⟩
                    · have hkR : kk < R.length := by omega
                      have d2 : wr.cell? ⟨gb, kk, none⟩ = some (.int .i64 R[kk]) := (World.ownsRow.cellAt hTx.2.1 kk (by omega)).trans (by rw [List.getElem?_map, List.getElem?_eq_getElem hkR]; rfl)
                      have hgK : R.getD kk 0 = R[kk] := by rw [List.getD_eq_getElem?_getD, List.getElem?_eq_getElem hkR]; rfl
                      rw [hgK] at b2 b3
                      rw [b1] at HN ⊢
                      rw [b2] at HN
                      clear hTx b1 b2 hgD hm1' hgK
                      generalize R[j] = rj at *
                      generalize R[kk] = rk at *
                      have hkb : decide ((kk : Int) < 0) = false := decide_eq_false (by omega)
                      have hkb2 : (kk : Int) < (B.length : Int) := by omega
                      by_cases hp : 0 ≤ rj
                      · have hpb : decide (rj ≥ 0) = true := decide_eq_true hp
                        by_cases hgt : rk < rj
                        · have hgb : decide (rj > rk) = true := decide_eq_true hgt
                          have HN2 : Hid ((bestTo R (j + 1)).1 = j) := by show (bestTo R (j + 1)).1 = _; rw [HN.out, if_pos (by omega)]
                          go_wp2_with fail
                          go_quiet (fail)
                          go_wp2
                          go_roundg (B.length - (j + 1))
                          case measure => omega
                          case rel => exact ⟨by (repeat (first | exact Bel.refl _ | assumption | refine Bel.step_alloc ?_ _ | refine Bel.step_drew ?_ | refine Bel.step_drewN ?_ _ | refine Bel.step_set ?_ (by simp <;> omega) _ | refine Bel.trans ?_ (by assumption))), j + 1, rfl, by omega, by go_num, by rw [HN2.out]⟩
                        · have hgb : decide (rj > rk) = false := decide_eq_false hgt
                          have HN2 : Hid ((bestTo R (j + 1)).1 = kk) := by show (bestTo R (j + 1)).1 = _; rw [HN.out, if_neg (by omega)]
                          go_wp2_with fail
                          go_quiet (fail)
                          go_wp2
                          go_roundg (B.length - (j + 1))
                          case measure => omega
                          case rel => exact ⟨by (repeat (first | exact Bel.refl _ | assumption | refine Bel.step_alloc ?_ _ | refine Bel.step_drew ?_ | refine Bel.step_drewN ?_ _ | refine Bel.step_set ?_ (by simp <;> omega) _ | refine Bel.trans ?_ (by assumption))), j + 1, rfl, by omega, by go_num, by rw [HN2.out]⟩
                      · have hpb : decide (rj ≥ 0) = false := decide_eq_false hp
                        have HN2 : Hid ((bestTo R (j + 1)).1 = kk) := by show (bestTo R (j + 1)).1 = _; rw [HN.out, if_neg (by omega)]
                        go_wp2_with fail
                        go_quiet (fail)
                        go_wp2
                        go_roundg (B.length - (j + 1))
                        case measure => omega
                        case rel => exact ⟨by (repeat (first | exact Bel.refl _ | assumption | refine Bel.step_alloc ?_ _ | refine Bel.step_drew ?_ | refine Bel.step_drewN ?_ _ | refine Bel.step_set ?_ (by simp <;> omega) _ | refine Bel.trans ?_ (by assumption))), j + 1, rfl, by omega, by go_num, by rw [HN2.out]⟩
                  · have hjb : decide ((j : Int) < (B.length : Int)) = false := decide_eq_false (by omega)
                    obtain rfl : j = B.length := by omega
                    obtain ⟨g1, g2, g3, g4⟩ := HG.out
                    obtain ⟨p1, p2, p3⟩ := bestF_pos (R := R) (by omega)
                    obtain ⟨kb, hkb⟩ := Int.eq_ofNat_of_zero_le p1
                    rw [hkb, Int.toNat_natCast] at p2 p3
                    have hbe : (bestTo R B.length).1 = (kb : Int) := by rw [← hRl]; exact hkb
                    have hkO : kb < O.length := by omega
                    have hpk : 0 < R[kb] := by rw [List.getD_eq_getElem?_getD, List.getElem?_eq_getElem p2] at p3; exact p3
                    obtain ⟨t, ht⟩ : ∃ t, (m - s).toNat = t + 1 := ⟨(m - s).toNat - 1, by omega⟩
                    have HGG : Hid (giveF t (O.set kb (O[kb] + 1)) (R.set kb (-1)) = X ∧ t ≤ (R.set kb (-1)).countP (fun x => decide (0 < x))) := give_one hkb hkO p2 hpk (by rw [← ht]; exact g1) (by rw [← ht]; exact g2)
                    have hbO := g3 _ (List.getElem_mem hkO)
                    have HBD : Hid (∀ x ∈ O.set kb (O[kb] + 1), 0 ≤ x ∧ x ≤ 2100 - (m - (s + 1))) := by
                      intro x hx
                      rcases List.mem_or_eq_of_mem_set hx with h | h
                      · have := g3 x h; omega
                      · omega
                    have d1 : wr.cell? ⟨ga, kb, none⟩ = some (.int .i64 O[kb]) := (World.ownsRow.cellAt hTx.1 kb (by omega)).trans (by rw [List.getElem?_map, List.getElem?_eq_getElem hkO]; rfl)
                    have e1 := World.ownsRow.frozenAt hTx.1 kb
                    have d2 : ∃ u, wr.cell? ⟨gb, kb, none⟩ = some u := ⟨_, (World.ownsRow.cellAt hTx.2.1 kb (by omega)).trans (by rw [List.getElem?_map, List.getElem?_eq_getElem p2]; rfl)⟩
                    obtain ⟨u2, d2⟩ := d2
                    have e2 := World.ownsRow.frozenAt hTx.2.1 kb
                    have hgn := hTx.2.2
                    have hga2 := (World.ownsRow.lt hTx.1 ga rfl).1
                    have hgb2 := (World.ownsRow.lt hTx.2.1 gb rfl).1
                    have HTS := Hid.mk ((hTx.set1 kb (O[kb] + 1)).set2 kb (-1))
                    have HB2 : Hid (Bel w ((wr.setCell ⟨ga, kb, none⟩ (.int .i64 (O[kb] + 1))).setCell ⟨gb, kb, none⟩ (.int .i64 (-1)))) := ((hb.trans hbx).step_set (p := ⟨ga, kb, none⟩) hga2 _).step_set (p := ⟨gb, kb, none⟩) hgb2 _
                    have hkb3 : (kb : Int) < (B.length : Int) := by omega
                    have HL : Hid ((O.set kb (O[kb] + 1)).length = B.length ∧ (R.set kb (-1)).length = B.length ∧ t = (m - (s + 1)).toNat) := ⟨by rw [List.length_set]; exact g4, by rw [List.length_set]; exact hRl, by omega⟩
                    rw [hbe]
                    clear hTx g1 g2 g3 g4 p1 p3 hkb hbe hpk
                    generalize O[kb] = ok at *
                    clear hkO p2
                    obtain ⟨hbO1, hbO2⟩ := hbO
                    go_wp2
                    go_roundg t
                    case measure => omega
                    case rel => exact ⟨HB2.out, O.set kb (ok + 1), R.set kb (-1), s + 1, HL.out.2.2, by omega, by omega, by go_num, HTS.out, HL.out.1, HL.out.2.1, by rw [← HL.out.2.2]; exact HGG.out.1, by rw [← HL.out.2.2]; exact HGG.out.2, HBD.out⟩
              · have hsb : decide (s < m) = false := decide_eq_false hlt2
                obtain rfl : s = m := by omega
                have HE : Hid (O = X ∧ OwnI w.heap.size wr (sl ga O.length B.length) O) := by
                  refine ⟨?_, hT.1⟩
                  rw [← hg, Int.sub_self]; rfl
                have HOl := Hid.mk hOl
                clear hT hg hcnt hbd2 hOl hRl
                go_wp2
                go_ret
                refine ⟨_, rfl, hb, ?_⟩
                have := HE.out.2
                rw [HOl.out] at this
                rw [← HE.out.1]
                exact this
      · have hWb : decide (W > 0) = false := decide_eq_false hW0
        have HX2 : Hid (X = List.replicate B.length 0) := by show X = _; rw [HX.out, shF, if_pos (by rw [← HW.out]; omega)]
        go_wp2
        go_loopg [9, 10] 0 (fun _ n i wr' => w2 = wr' ∧ n = .int .i64 0 ∧ i = .int .i64 0)
        case atStart => exact ⟨rfl, rfl, rfl⟩
        case round =>
          obtain ⟨rfl, rfl, rfl⟩ := hrel
          have HT0 := Hid.mk hT0
          clear hT0
          go_wp2
          all_goals
            go_loopg [9] 0 (fun _ n wr' => w2 = wr' ∧ n = .int .i64 0)
            case atStart => exact ⟨rfl, rfl⟩
            case round =>
              obtain ⟨rfl, rfl⟩ := hrel
              go_wp2
              go_ret
              refine ⟨_, rfl, hbb, ?_⟩
              rw [HX2.out, hga]
              have := HT0.out.1
              rw [List.length_replicate] at this
              exact this

end Go.Proofs.YtgfildmmcbjpnabGreat

namespace Go.Proofs.YtgfildmmcbjpnabGreat
open Go.RowKit

/-- a table of slots while it is filled: names, no points -/
def srow (ids : List ByteArray) : List EN := ids.map fun s => (s, 0, 0)
theorem srow_len (ids : List ByteArray) : (srow ids).length = ids.length := by simp [srow]
theorem srow_set (ids : List ByteArray) (k : Nat) (x : ByteArray) : ecells (srow (ids.set k x)) = (ecells (srow ids)).set (k * 3) (.string x) := by
  induction ids generalizing k with
  | nil => simp [srow, ecells]
  | cons s S ih =>
    cases k with
    | zero => simp [srow, ecells]
    | succ k =>
      have e : (k + 1) * 3 = k * 3 + 1 + 1 + 1 := by omega
      have := ih k
      simp only [srow, ecells, List.set_cons_succ, List.map_cons, List.flatMap_cons, List.cons_append, List.nil_append, e] at this ⊢
      rw [this]
def OwnN (base g : Nat) (w : World) (ids : List ByteArray) : Prop := w.ownsRow base 131 3 (sl g ids.length ids.length) ids.length (ecells (srow ids))
theorem made3 (n : Nat) (s : ByteArray) : (madeCells #[Value.string s, .int .i64 0, .int .i64 0] (n * 3)).toList = ecells (srow (List.replicate n s)) := by
  have hl : (srow (List.replicate n s)).length = n := by simp [srow]
  apply List.ext_getElem?
  intro j
  by_cases hj : j < n * 3
  · have hq : j / 3 < (srow (List.replicate n s)).length := by rw [hl]; omega
    obtain ⟨g0, g1, g2⟩ := ecells_get (srow (List.replicate n s)) (j / 3) hq
    have hget : (srow (List.replicate n s))[j / 3] = (s, 0, 0) := by simp [srow]
    rw [hget] at g0 g1 g2
    have hL : (madeCells #[Value.string s, .int .i64 0, .int .i64 0] (n * 3)).toList[j]? = some (#[Value.string s, .int .i64 0, .int .i64 0][j % 3]!) := by simp [madeCells, hj]
    rw [hL]
    rcases (show j % 3 = 0 ∨ j % 3 = 1 ∨ j % 3 = 2 by omega) with h | h | h
    · rw [h, show j = j / 3 * 3 by omega, g0]; rfl
    · rw [h, show j = j / 3 * 3 + 1 by omega, g1]; rfl
    · rw [h, show j = j / 3 * 3 + 2 by omega, g2]; rfl
  · rw [List.getElem?_eq_none (by simp [size_madeCells]; omega), List.getElem?_eq_none (by rw [ecells_len, hl]; omega)]
theorem OwnN.made {base : Nat} {w : World} {g n : Nat} (h : w.ownsRow base 131 3 (.slice (some ⟨g, 0, none⟩) n n) n (madeCells #[Value.string ByteArray.empty, .int .i64 0, .int .i64 0] (n * 3)).toList) : OwnN base g w (List.replicate n ByteArray.empty) := by
  unfold OwnN sl
  rw [List.length_replicate, ← made3]
  exact h
theorem OwnN.later {base g : Nat} {w w' : World} {ids : List ByteArray} (h : OwnN base g w ids) (k : Bel w w') : OwnN base g w' ids := own_later h k
theorem OwnN.set {base g : Nat} {w : World} {ids : List ByteArray} (h : OwnN base g w ids) (k : Nat) (x : ByteArray) : OwnN base g (w.setCell ⟨g, k * 3, none⟩ (.string x)) (ids.set k x) := by
  have hs := World.ownsRow.stored h (k * 3) (.string x)
  unfold OwnN
  rw [srow_set, sl, List.length_set]
  exact hs.1
theorem OwnN.cell {base g : Nat} {w : World} {ids : List ByteArray} (h : OwnN base g w ids) {k : Nat} (hk : k < ids.length) : w.cell? ⟨g, k * 3, none⟩ = some (.string ids[k]) ∧ w.frozen? ⟨g, k * 3, none⟩ = false := by
  have hl : k < (srow ids).length := by rw [srow_len]; exact hk
  refine ⟨(World.ownsRow.cellAt h (k * 3) (by omega)).trans ?_, World.ownsRow.frozenAt h (k * 3)⟩
  rw [(ecells_get (srow ids) k hl).1]
  simp [srow]
def free (s : ByteArray) : Bool := decide (s.size = 0)
def emp (ids : List ByteArray) : Nat := ids.countP free
theorem emp_set {ids : List ByteArray} {k : Nat} (hk : k < ids.length) (h0 : ids[k].size = 0) {x : ByteArray} (hx : x.size ≠ 0) : emp (ids.set k x) + 1 = emp ids := by
  have h1 : free ids[k] = true := decide_eq_true h0
  have h2 : free x = false := decide_eq_false hx
  have h3 : 0 < emp ids := List.countP_pos_iff.2 ⟨_, List.getElem_mem hk, h1⟩
  unfold emp at *
  rw [List.countP_set hk, h1, h2]
  simp
  omega
/-- behind so many steps there is a free one -/
theorem free_ahead {ids : List ByteArray} {n : Nat} (hl : ids.length = n) (hpr : ∀ d : Nat, 2 ≤ d → d < n → n % d ≠ 0) (hn : 2 ≤ n) (o s : Int) (ho : 0 ≤ o) (hs1 : 1 ≤ s) (hs2 : s < n) (he : 0 < emp ids) : ∃ i, i < n ∧ ∃ h : stepOf n (o, s) i < ids.length, (ids[stepOf n (o, s) i]'h).size = 0 := by
  obtain ⟨x, hx, hf⟩ := List.countP_pos_iff.1 he
  obtain ⟨v, hv, rfl⟩ := List.mem_iff_getElem.1 hx
  obtain ⟨i, hi, e⟩ := stepOf_onto n hn hpr o s ho hs1 hs2 v (by omega)
  refine ⟨i, hi, by rw [e]; exact hv, ?_⟩
  have h1 : ids[v].size = 0 := of_decide_eq_true hf
  simp only [e]
  exact h1
theorem isEmpty_iff (s : ByteArray) : s.toList.isEmpty = true ↔ s.size = 0 := by
  rw [ByteArray.toList_eq, List.isEmpty_iff, ← List.length_eq_zero_iff]
  rfl
theorem stepOf_zero {n : Nat} {o s : Int} (ho : 0 ≤ o) (ho2 : o < n) : ((stepOf n (o, s) 0 : Nat) : Int) = o := by
  unfold stepOf
  simp only [Int.natCast_zero, Int.zero_mul, Int.add_zero]
  rw [Int.emod_eq_of_lt ho ho2]
  omega
theorem stepOf_succ {n : Nat} (hn : 0 < n) (o s : Int) (i : Nat) : ((stepOf n (o, s) (i + 1) : Nat) : Int) = ((stepOf n (o, s) i : Nat) + s) % n := by
  unfold stepOf
  have h2 := Int.emod_nonneg (o + (i : Int) * s) (show (n : Int) ≠ 0 by omega)
  have h3 := Int.emod_nonneg (o + ((i + 1 : Nat) : Int) * s) (show (n : Int) ≠ 0 by omega)
  rw [Int.toNat_of_nonneg h2, Int.toNat_of_nonneg h3, Int.emod_add_emod]
  congr 1
  push_cast
  rw [Int.add_mul]
  omega

theorem shF_sum (m : Int) (B : List BK) (hm : 0 ≤ m) (hB : PoolOK B) : ((shF m B).sum = 0 ∧ ∀ x ∈ shF m B, x = 0) ∨ ((shF m B).sum = m ∧ 1 ≤ wSum B) := by
  unfold shF
  split
  · refine Or.inl ⟨?_, fun x hx => List.eq_of_mem_replicate hx⟩
    generalize B.length = n
    induction n with
    | zero => rfl
    | succ n ih => simp [List.replicate_succ]
  · exact Or.inr ⟨(shares_spec m B hm (fun b hb => (hB.2 b hb).2.2.1) (by omega)).1, by omega⟩
theorem shF_len (m : Int) (B : List BK) : (shF m B).length = B.length := by
  unfold shF
  split
  · simp
  · exact sharesF_len m B (by omega)
theorem shF_bd (m : Int) (B : List BK) (hm : 0 ≤ m) (hB : PoolOK B) : ∀ x ∈ shF m B, 0 ≤ x := by
  intro x hx
  unfold shF at hx
  split at hx
  · have := List.eq_of_mem_replicate hx; omega
  · have h := shares_spec m B hm (fun b hb => (hB.2 b hb).2.2.1) (by omega)
    obtain ⟨j, hj, rfl⟩ := List.mem_iff_getElem.1 hx
    have := (h.2.2 j (by omega)).1
    rw [List.getD_eq_getElem?_getD, List.getElem?_eq_getElem hj] at this
    exact this
theorem le_sum : ∀ {L : List Int}, (∀ x ∈ L, 0 ≤ x) → (∀ x ∈ L, x ≤ L.sum) ∧ 0 ≤ L.sum
  | [], _ => by simp
  | y :: L, h => by
    obtain ⟨h1, h2⟩ := le_sum (L := L) (fun x hx => h x (List.mem_cons_of_mem _ hx))
    have h3 := h y List.mem_cons_self
    rw [List.sum_cons]
    refine ⟨fun x hx => ?_, by omega⟩
    rcases List.mem_cons.1 hx with rfl | hx
    · omega
    · have := h1 x hx; omega
theorem sum_take_le {L : List Int} (h : ∀ x ∈ L, 0 ≤ x) (k : Nat) : 0 ≤ (L.take k).sum ∧ (L.take k).sum ≤ L.sum := by
  have h1 := (le_sum (L := L.take k) (fun x hx => h x (List.mem_of_mem_take hx))).2
  have h2 := (le_sum (L := L.drop k) (fun x hx => h x (List.mem_of_mem_drop hx))).2
  have h3 : L.sum = (L.take k).sum + (L.drop k).sum := by rw [← List.sum_append, List.take_append_drop]
  omega
/-- while slots are given: what each still gets, the names so far -/
def SlI (W : World) (B : List BK) (gq cq go n : Nat) (Q : List Int) (ids : List ByteArray) (wr : World) : Prop := Bel W wr ∧ OwnI W.heap.size wr (sl gq Q.length cq) Q ∧ OwnN W.heap.size go wr ids ∧ gq ≠ go ∧ Q.length = B.length ∧ ids.length = n ∧ (∀ x ∈ Q, 0 ≤ x) ∧ (∀ s ∈ ids, Best B s) ∧ Q.sum = emp ids
theorem SlI.later {W : World} {B : List BK} {gq cq go n : Nat} {Q : List Int} {ids : List ByteArray} {wr wx : World} (h : SlI W B gq cq go n Q ids wr) (b : Bel wr wx) : SlI W B gq cq go n Q ids wx := by
  obtain ⟨h1, h2, h3, r⟩ := h
  exact ⟨h1.trans b, h2.later b, h3.later b, r⟩

end Go.Proofs.YtgfildmmcbjpnabGreat
