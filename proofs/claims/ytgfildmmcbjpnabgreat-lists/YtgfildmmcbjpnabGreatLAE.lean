import Derived.Test.YtgfildmmcbjpnabGreatLAC
import Derived.Test.YtgfildmmcbjpnabGreatLAD
namespace Go.Proofs.YtgfildmmcbjpnabGreat
open Go.RowKit

/-- four words in a row of their own, with their values -/
def FourE (w : World) (b : Nat) (s : S4) : Prop := ∃ x0 x1 x2 x3 x4 x5 x6 x7 : Int, (W32 x0 ∧ W32 x1 ∧ W32 x2 ∧ W32 x3 ∧ W32 x4 ∧ W32 x5 ∧ W32 x6 ∧ W32 x7) ∧
  (w.cell? ⟨b, 0, none⟩ = some (.int .i64 x0) ∧ w.cell? ⟨b, 1, none⟩ = some (.int .i64 x1) ∧ w.cell? ⟨b, 2, none⟩ = some (.int .i64 x2) ∧ w.cell? ⟨b, 3, none⟩ = some (.int .i64 x3) ∧
  w.cell? ⟨b, 4, none⟩ = some (.int .i64 x4) ∧ w.cell? ⟨b, 5, none⟩ = some (.int .i64 x5) ∧ w.cell? ⟨b, 6, none⟩ = some (.int .i64 x6) ∧ w.cell? ⟨b, 7, none⟩ = some (.int .i64 x7)) ∧
  wv x0 x1 = s.a ∧ wv x2 x3 = s.b ∧ wv x4 x5 = s.c ∧ wv x6 x7 = s.d
theorem FourE.later {a w : World} (h : Bel a w) {b : Nat} {s : S4} (k : FourE a b s) : FourE w b s := by
  obtain ⟨x0, x1, x2, x3, x4, x5, x6, x7, hx, ⟨c0, c1, c2, c3, c4, c5, c6, c7⟩, he⟩ := k
  exact ⟨x0, x1, x2, x3, x4, x5, x6, x7, hx, ⟨h.cell c0, h.cell c1, h.cell c2, h.cell c3, h.cell c4, h.cell c5, h.cell c6, h.cell c7⟩, he⟩
def RFourE (w : World) (s : S4) (e : Ending) (w' : World) : Prop := ∃ b' cap' : Nat, e = .returned (.slice (some ⟨b', 0, none⟩) 4 cap') ∧ Bel w w' ∧ FourE w' b' s
/-- so many rounds -/
def S4.rounds (s : S4) : Nat → S4
  | 0 => s
  | n + 1 => S4.rounds s.round n
/-- a local word's box, with its value -/
def BoxV (base : Nat) (w : World) (v : Value) (X : Int) : Prop := ∃ (p : Nat) (x y : Int), v = .pointer (some ⟨p, 0, none⟩) ∧ base ≤ p ∧ w.cell? ⟨p, 0, none⟩ = some (.int .i64 x) ∧ w.cell? ⟨p, 1, none⟩ = some (.int .i64 y) ∧ w.frozen? ⟨p, 0, none⟩ = false ∧ w.frozen? ⟨p, 1, none⟩ = false ∧ W32 x ∧ W32 y ∧ wv x y = X
theorem BoxV.later {B : Nat} {a w : World} {v : Value} {X : Int} (k : BoxV B a v X) (h : Bel a w) : BoxV B w v X := by
  obtain ⟨p, x, y, rfl, hp, c0, c1, f0, f1, r⟩ := k
  exact ⟨p, x, y, rfl, hp, h.cell c0, h.cell c1, h.frozen c0 f0, h.frozen c1 f1, r⟩
theorem BoxV.new {B : Nat} {w : World} {x y X : Int} (hB : B ≤ w.heap.size) (hx : W32 x) (hy : W32 y) (hX : wv x y = X) (t : TypeId) : BoxV B (w.alloc (.cells #[.int .i64 x, .int .i64 y] t)) (.pointer (some ⟨w.heap.size, 0, none⟩)) X :=
  ⟨_, x, y, rfl, hB, by simp, by simp, by simp, by simp, hx, hy, hX⟩
theorem BoxV.stored {B : Nat} {w : World} {p : Nat} {u0 u1 : Value} {X : Int} (hp : B ≤ p) (h0 : w.cell? ⟨p, 0, none⟩ = some u0) (h1 : w.cell? ⟨p, 1, none⟩ = some u1) (f0 : w.frozen? ⟨p, 0, none⟩ = false) (f1 : w.frozen? ⟨p, 1, none⟩ = false) {x y : Int} (hx : W32 x) (hy : W32 y) (hX : wv x y = X) :
    BoxV B ((w.setCell ⟨p, 0, none⟩ (.int .i64 x)).setCell ⟨p, 1, none⟩ (.int .i64 y)) (.pointer (some ⟨p, 0, none⟩)) X := by
  refine ⟨p, x, y, rfl, hp, ?_, ?_, by rw [frozen_set, frozen_set]; exact f0, by rw [frozen_set, frozen_set]; exact f1, hx, hy, hX⟩
  · rw [set_other (by simp)]; exact set_same h0
  · exact set_same (v := u1) (by rw [set_other (by simp)]; exact h1)
/-- local words, each in a box of its own, behind a world -/
def StE (w : World) (vs : List (Value × Int)) (wc : World) : Prop := Bel w wc ∧ (∀ v ∈ vs, BoxV w.heap.size wc v.1 v.2) ∧ (vs.map (·.1)).Nodup
theorem StE.nil (w : World) : StE w [] w := ⟨Bel.refl _, fun v hv => by simp at hv, by simp⟩
theorem StE.later {w a : World} {vs : List (Value × Int)} (h : StE w vs a) {w' : World} (k : Bel a w') : StE w vs w' := ⟨h.1.trans k, fun v hv => (h.2.1 v hv).later k, h.2.2⟩
theorem StE.more {w a w' : World} {vs : List (Value × Int)} {p : Nat} {X : Int} (h : StE w vs a) (k : Bel a w') (hb : BoxV w.heap.size w' (.pointer (some ⟨p, 0, none⟩)) X) (hp : a.heap.size ≤ p) : StE w (vs ++ [(.pointer (some ⟨p, 0, none⟩), X)]) w' := by
  refine ⟨h.1.trans k, fun v hv => ?_, ?_⟩
  · rcases List.mem_append.1 hv with hv | hv
    · exact (h.2.1 v hv).later k
    · rw [List.mem_singleton.1 hv]; exact hb
  · rw [List.map_append, List.nodup_append]
    refine ⟨h.2.2, by simp, fun u hu z hz => ?_⟩
    obtain ⟨v, hv, rfl⟩ := List.mem_map.1 hu
    obtain ⟨q, x, y, e, -, c0, -⟩ := h.2.1 v hv
    have hq := World.block_lt_of_cell? a _ c0
    simp only [List.map_cons, List.map_nil, List.mem_singleton] at hz
    subst hz
    rw [e]
    intro e2
    simp only [Value.pointer.injEq, Option.some.injEq, Addr.mk.injEq, and_true] at e2
    simp only at hq
    omega
theorem StE.put {w a w2 : World} {vs : List (Value × Int)} {p : Nat} {X X' : Int} (h : StE w vs a) (k : Bel a w2) (i : Nat) (hi : vs[i]? = some (.pointer (some ⟨p, 0, none⟩), X)) {x y : Int} (hx : W32 x) (hy : W32 y) (hX : wv x y = X') :
    StE w (vs.set i (.pointer (some ⟨p, 0, none⟩), X')) ((w2.setCell ⟨p, 0, none⟩ (.int .i64 x)).setCell ⟨p, 1, none⟩ (.int .i64 y)) := by
  have hil := (List.getElem?_eq_some_iff.1 hi).1
  have hie := (List.getElem?_eq_some_iff.1 hi).2
  obtain ⟨q, x0, y0, e, hp, c0, c1, f0, f1, -⟩ := (h.2.1 _ (List.mem_of_getElem? hi)).later k
  simp only [Value.pointer.injEq, Option.some.injEq, Addr.mk.injEq, and_true] at e
  subst e
  have hmap : (vs.set i (.pointer (some ⟨p, 0, none⟩), X')).map (·.1) = vs.map (·.1) := by
    apply List.ext_getElem
    · simp
    · intro j j1 j2
      simp only [List.getElem_map, List.getElem_set]
      split
      · rename_i e
        subst e
        simp [hie]
      · rfl
  refine ⟨((h.1.trans k).step_set (p := ⟨p, 0, none⟩) hp _).step_set (p := ⟨p, 1, none⟩) hp _, fun v hv => ?_, by rw [hmap]; exact h.2.2⟩
  obtain ⟨j, hj, rfl⟩ := List.mem_iff_getElem.1 hv
  have hj' : j < vs.length := by simpa using hj
  by_cases hij : i = j
  · subst hij
    simp only [List.getElem_set_self]
    exact BoxV.stored hp c0 c1 f0 f1 hx hy hX
  · simp only [List.getElem_set_ne hij]
    obtain ⟨r, x1, y1, e1, hr, d0, d1, g0, g1, rr⟩ := (h.2.1 _ (List.getElem_mem hj')).later k
    have hne : p ≠ r := fun e2 => by
      have hn := List.pairwise_iff_getElem.1 h.2.2
      have hh : (vs.map (·.1))[i]'(by simpa using hil) = (vs.map (·.1))[j]'(by simpa using hj') := by
        simp only [List.getElem_map, hie, e1, e2]
      rcases Nat.lt_or_gt_of_ne hij with h1 | h1
      · exact hn i j (by simpa using hil) (by simpa using hj') h1 hh
      · exact hn j i (by simpa using hj') (by simpa using hil) h1 hh.symm
    refine ⟨r, x1, y1, e1, hr, ?_, ?_, by rw [frozen_set, frozen_set]; exact g0, by rw [frozen_set, frozen_set]; exact g1, rr⟩
    · rw [set_other (Or.inl hne), set_other (Or.inl hne)]; exact d0
    · rw [set_other (Or.inl hne), set_other (Or.inl hne)]; exact d1

set_option maxRecDepth 100000 in
set_option maxHeartbeats 4000000 in
theorem rounds_is (b cap : Nat) (n : Nat) (s : S4) (w : World) (hn2 : n ≤ 4) (h4 : FourE w b s) :
    Calls Tryz.prog 113 #[.slice (some ⟨b, 0, none⟩) 4 cap, .int .i64 n] w (RFourE w (s.rounds n)) := by
  obtain ⟨R, hR⟩ : ∃ R, R = s.rounds n := ⟨_, rfl⟩
  rw [← hR]
  have HR := Hid.mk hR
  clear hR
  go_enter Tryz.func113, Tryz.ntmps113
  go_wp2
  go_loopg [0, 1] n (fun g v i wr => ∃ (b' cap' q : Nat) (t : S4), v = .slice (some ⟨b', 0, none⟩) 4 cap' ∧ i = .int .i64 q ∧ q ≤ 4 ∧ g = q ∧ FourE wr b' t ∧ Bel w wr ∧ R = t.rounds q)
  case atStart => exact ⟨b, cap, n, s, rfl, rfl, hn2, rfl, h4, Bel.refl _, HR.out⟩
  case round =>
    obtain ⟨b', cap', q, t, rfl, rfl, hq2, hg, h4', hb, hRt⟩ := hrel
    clear h4
    have HRT := Hid.mk hRt
    clear hRt HR
    by_cases hlt : 0 < q
    · have HB := Hid.mk hb
      obtain ⟨q, rfl⟩ : ∃ q', q = q' + 1 := ⟨q - 1, by omega⟩
      obtain ⟨x0, x1, x2, x3, x4, x5, x6, x7, ⟨g0, g1, g2, g3, g4, g5, g6, g7⟩, ⟨o0, o1, o2, o3, o4, o5, o6, o7⟩, e0, e1, e2, e3⟩ := h4'
      obtain ⟨ta, tb, tc, td⟩ := t
      simp only at e0 e1 e2 e3
      have hS : StE wr [] wr := StE.nil wr
      clear hb
      obtain ⟨a1, E0⟩ : ∃ X, X = addW ta tb := ⟨_, rfl⟩
      have H0 := Hid.mk E0
      clear E0
      obtain ⟨b0, E1⟩ : ∃ X, X = rotF tb 13 := ⟨_, rfl⟩
      have H1 := Hid.mk E1
      clear E1
      obtain ⟨b1, E2⟩ : ∃ X, X = xorW b0 a1 := ⟨_, rfl⟩
      have H2 := Hid.mk E2
      clear E2
      obtain ⟨a2, E3⟩ : ∃ X, X = rotF a1 32 := ⟨_, rfl⟩
      have H3 := Hid.mk E3
      clear E3
      obtain ⟨c1, E4⟩ : ∃ X, X = addW tc td := ⟨_, rfl⟩
      have H4 := Hid.mk E4
      clear E4
      obtain ⟨d0, E5⟩ : ∃ X, X = rotF td 16 := ⟨_, rfl⟩
      have H5 := Hid.mk E5
      clear E5
      obtain ⟨d1, E6⟩ : ∃ X, X = xorW d0 c1 := ⟨_, rfl⟩
      have H6 := Hid.mk E6
      clear E6
      obtain ⟨a3, E7⟩ : ∃ X, X = addW a2 d1 := ⟨_, rfl⟩
      have H7 := Hid.mk E7
      clear E7
      obtain ⟨d2, E8⟩ : ∃ X, X = rotF d1 21 := ⟨_, rfl⟩
      have H8 := Hid.mk E8
      clear E8
      obtain ⟨d3, E9⟩ : ∃ X, X = xorW d2 a3 := ⟨_, rfl⟩
      have H9 := Hid.mk E9
      clear E9
      obtain ⟨c2, E10⟩ : ∃ X, X = addW c1 b1 := ⟨_, rfl⟩
      have H10 := Hid.mk E10
      clear E10
      obtain ⟨b2, E11⟩ : ∃ X, X = rotF b1 17 := ⟨_, rfl⟩
      have H11 := Hid.mk E11
      clear E11
      obtain ⟨b3, E12⟩ : ∃ X, X = xorW b2 c2 := ⟨_, rfl⟩
      have H12 := Hid.mk E12
      clear E12
      obtain ⟨c3, E13⟩ : ∃ X, X = rotF c2 32 := ⟨_, rfl⟩
      have H13 := Hid.mk E13
      clear E13
      have HFIN : Hid (R = S4.rounds ⟨a3, b3, c3, d3⟩ q) := by
        show R = _
        rw [HRT.out]
        show S4.rounds (S4.round ⟨ta, tb, tc, td⟩) q = _
        congr 1
        rw [H13.out, H12.out, H11.out, H10.out, H9.out, H8.out, H7.out, H6.out, H5.out, H4.out, H3.out, H2.out, H1.out, H0.out]
        rfl
      clear HRT
      have hd1 : decide (((q + 1 : Nat) : Int) > 0) = true := decide_eq_true (by omega)
      go_wp2_with fail
      go_cut [5] (fun u5 wc => StE wr [(u5, a1)] wc)
      case first =>
        have c0 := hS.1.cell o0
        have c1 := hS.1.cell o1
        have c2 := hS.1.cell o2
        have c3 := hS.1.cell o3
        go_region_held3 (fun w' => Bel wr w' ∧ w'.cell? ⟨b', 0, none⟩ = some (.int .i64 x0) ∧ w'.cell? ⟨b', 1, none⟩ = some (.int .i64 x1) ∧ w'.cell? ⟨b', 2, none⟩ = some (.int .i64 x2) ∧ w'.cell? ⟨b', 3, none⟩ = some (.int .i64 x3)) ((refine keep4 ?_ c0 c1 c2 c3; (repeat (first | exact Bel.refl _ | assumption | refine Bel.step_alloc ?_ _ | refine Bel.step_drew ?_ | refine Bel.step_drewN ?_ _ | refine Bel.step_set ?_ (by simp <;> omega) _ | refine Bel.trans ?_ (by assumption))))) ((go_at_call 121; refine (wplus_is _ _ _ _ _ g0 g1 g2 g3).mono ?_; rintro e w2 ⟨z0, z1, rfl, hb2, k0, k1, ez⟩; obtain ⟨hq2, hf2⟩ := hb2.cells))
        all_goals
          have EZ : Hid (wv z0 z1 = a1) := by
            show wv z0 z1 = _
            have ez' := show wv z0 z1 = _ from ez
            rw [e0, e1] at ez'
            rw [H0.out]
            exact ez'
          clear ez
          go_wp2_with fail
          go_meet
          case rel =>
            have hB : Bel wr w2 := by (repeat (first | exact Bel.refl _ | assumption | refine Bel.step_alloc ?_ _ | refine Bel.step_drew ?_ | refine Bel.step_drewN ?_ _ | refine Bel.step_set ?_ (by simp <;> omega) _ | refine Bel.trans ?_ (by assumption)))
            have hw := (hS.1.trans hB).size
            have hw1 := hS.1.size
            first
              | exact hS.more (hB.step_alloc _) (BoxV.new hw k0 k1 EZ.out _) hB.size
              | exact hS.more ((hB.step_set (p := ⟨wr.heap.size, 0, none⟩) (Nat.le_refl _) _).step_set (p := ⟨wr.heap.size, 1, none⟩) (Nat.le_refl _) _) (BoxV.stored hw1 ((hq2 _ _ (by simp)).trans (by simp; rfl)) ((hq2 _ _ (by simp)).trans (by simp; rfl)) ((hf2 _ _ (by simp)).trans (by simp)) ((hf2 _ _ (by simp)).trans (by simp)) k0 k1 EZ.out) (Nat.le_refl _)
      case rest =>
        replace hS := hcut
        clear hcut
        go_upto_region 4 with fail
        go_cut [6] (fun u6 wc => StE wr [(u5, a1), (u6, b0)] wc)
        case first =>
          have c2 := hS.1.cell o2
          have c3 := hS.1.cell o3
          go_wp2_with fail
          refine (wturned_is _ _ _ _ g2 g3 (by decide)).mono ?_
          rintro e w2 ⟨z0, z1, rfl, hb2, k0, k1, ez⟩
          have EZ : Hid (wv z0 z1 = b0) := by
            show wv z0 z1 = _
            have ez' := show wv z0 z1 = _ from ez
            rw [e1] at ez'
            rw [H1.out]
            exact ez'
          clear ez
          go_wp2_with fail
          go_meet
          case rel =>
            have hB : Bel wc w2 := by (repeat (first | exact Bel.refl _ | assumption | refine Bel.step_alloc ?_ _ | refine Bel.step_drew ?_ | refine Bel.step_drewN ?_ _ | refine Bel.step_set ?_ (by simp <;> omega) _ | refine Bel.trans ?_ (by assumption)))
            exact hS.more (hB.step_alloc _) (BoxV.new (hS.1.trans hB).size k0 k1 EZ.out _) hB.size
        case rest =>
          replace hS := hcut
          clear hcut
          go_upto_region 5 with fail
          go_cut [] (fun wc => StE wr [(u5, a1), (u6, b1)] wc)
          case first =>
            obtain ⟨p6, X6, Y6, rfl, hp6, c60, c61, f60, f61, hX6, hY6, hV6⟩ := hS.2.1 (u6, b0) (by simp)
            obtain ⟨p5, X5, Y5, rfl, hp5, c50, c51, f50, f51, hX5, hY5, hV5⟩ := hS.2.1 (u5, a1) (by simp)
            go_wp2_with fail
            refine (wmixed_is _ _ _ _ _ hX6 hY6 hX5 hY5).mono ?_
            rintro e w2 ⟨z0, z1, rfl, hb2, k0, k1, ez⟩
            have EZ : Hid (wv z0 z1 = b1) := by
              show wv z0 z1 = _
              have ez' := show wv z0 z1 = _ from ez
              rw [hV6, hV5] at ez'
              rw [H2.out]
              exact ez'
            clear ez
            have d60 := hb2.cell c60
            have d61 := hb2.cell c61
            have e60 := hb2.frozen c60 f60
            have e61 := hb2.frozen c61 f61
            go_wp2_with fail
            go_meet
            case rel =>
              have hB : Bel wc w2 := by (repeat (first | exact Bel.refl _ | assumption | refine Bel.step_alloc ?_ _ | refine Bel.step_drew ?_ | refine Bel.step_drewN ?_ _ | refine Bel.step_set ?_ (by simp <;> omega) _ | refine Bel.trans ?_ (by assumption)))
              exact hS.put hB 1 rfl k0 k1 EZ.out
          case rest =>
            replace hS := hcut
            clear hcut
            go_upto_region 6 with fail
            go_cut [] (fun wc => StE wr [(u5, a2), (u6, b1)] wc)
            case first =>
              obtain ⟨p5, X5, Y5, rfl, hp5, c50, c51, f50, f51, hX5, hY5, hV5⟩ := hS.2.1 (u5, a1) (by simp)
              go_wp2_with fail
              refine (wturned_is _ _ _ _ hX5 hY5 (by decide)).mono ?_
              rintro e w2 ⟨z0, z1, rfl, hb2, k0, k1, ez⟩
              have EZ : Hid (wv z0 z1 = a2) := by
                show wv z0 z1 = _
                have ez' := show wv z0 z1 = _ from ez
                rw [hV5] at ez'
                rw [H3.out]
                exact ez'
              clear ez
              have d50 := hb2.cell c50
              have d51 := hb2.cell c51
              have e50 := hb2.frozen c50 f50
              have e51 := hb2.frozen c51 f51
              go_wp2_with fail
              go_meet
              case rel =>
                have hB : Bel wc w2 := by (repeat (first | exact Bel.refl _ | assumption | refine Bel.step_alloc ?_ _ | refine Bel.step_drew ?_ | refine Bel.step_drewN ?_ _ | refine Bel.step_set ?_ (by simp <;> omega) _ | refine Bel.trans ?_ (by assumption)))
                exact hS.put hB 0 rfl k0 k1 EZ.out
            case rest =>
              replace hS := hcut
              clear hcut
              go_upto_region 7 with fail
              go_cut [7] (fun u7 wc => StE wr [(u5, a2), (u6, b1), (u7, c1)] wc)
              case first =>
                have c4 := hS.1.cell o4
                have c5 := hS.1.cell o5
                have c6 := hS.1.cell o6
                have c7 := hS.1.cell o7
                go_region_held3 (fun w' => Bel wc w' ∧ w'.cell? ⟨b', 4, none⟩ = some (.int .i64 x4) ∧ w'.cell? ⟨b', 5, none⟩ = some (.int .i64 x5) ∧ w'.cell? ⟨b', 6, none⟩ = some (.int .i64 x6) ∧ w'.cell? ⟨b', 7, none⟩ = some (.int .i64 x7)) ((refine keep4 ?_ c4 c5 c6 c7; (repeat (first | exact Bel.refl _ | assumption | refine Bel.step_alloc ?_ _ | refine Bel.step_drew ?_ | refine Bel.step_drewN ?_ _ | refine Bel.step_set ?_ (by simp <;> omega) _ | refine Bel.trans ?_ (by assumption))))) ((go_at_call 121; refine (wplus_is _ _ _ _ _ g4 g5 g6 g7).mono ?_; rintro e w2 ⟨z0, z1, rfl, hb2, k0, k1, ez⟩; obtain ⟨hq2, hf2⟩ := hb2.cells))
                all_goals
                  have EZ : Hid (wv z0 z1 = c1) := by
                    show wv z0 z1 = _
                    have ez' := show wv z0 z1 = _ from ez
                    rw [e2, e3] at ez'
                    rw [H4.out]
                    exact ez'
                  clear ez
                  go_wp2_with fail
                  go_meet
                  case rel =>
                    have hB : Bel wc w2 := by (repeat (first | exact Bel.refl _ | assumption | refine Bel.step_alloc ?_ _ | refine Bel.step_drew ?_ | refine Bel.step_drewN ?_ _ | refine Bel.step_set ?_ (by simp <;> omega) _ | refine Bel.trans ?_ (by assumption)))
                    have hw := (hS.1.trans hB).size
                    have hw1 := hS.1.size
                    first
                      | exact hS.more (hB.step_alloc _) (BoxV.new hw k0 k1 EZ.out _) hB.size
                      | exact hS.more ((hB.step_set (p := ⟨wc.heap.size, 0, none⟩) (Nat.le_refl _) _).step_set (p := ⟨wc.heap.size, 1, none⟩) (Nat.le_refl _) _) (BoxV.stored hw1 ((hq2 _ _ (by simp)).trans (by simp; rfl)) ((hq2 _ _ (by simp)).trans (by simp; rfl)) ((hf2 _ _ (by simp)).trans (by simp)) ((hf2 _ _ (by simp)).trans (by simp)) k0 k1 EZ.out) (Nat.le_refl _)
              case rest =>
                replace hS := hcut
                clear hcut
                go_upto_region 8 with fail
                go_cut [8] (fun u8 wc => StE wr [(u5, a2), (u6, b1), (u7, c1), (u8, d0)] wc)
                case first =>
                  have c6 := hS.1.cell o6
                  have c7 := hS.1.cell o7
                  go_wp2_with fail
                  refine (wturned_is _ _ _ _ g6 g7 (by decide)).mono ?_
                  rintro e w2 ⟨z0, z1, rfl, hb2, k0, k1, ez⟩
                  have EZ : Hid (wv z0 z1 = d0) := by
                    show wv z0 z1 = _
                    have ez' := show wv z0 z1 = _ from ez
                    rw [e3] at ez'
                    rw [H5.out]
                    exact ez'
                  clear ez
                  go_wp2_with fail
                  go_meet
                  case rel =>
                    have hB : Bel wc w2 := by (repeat (first | exact Bel.refl _ | assumption | refine Bel.step_alloc ?_ _ | refine Bel.step_drew ?_ | refine Bel.step_drewN ?_ _ | refine Bel.step_set ?_ (by simp <;> omega) _ | refine Bel.trans ?_ (by assumption)))
                    exact hS.more (hB.step_alloc _) (BoxV.new (hS.1.trans hB).size k0 k1 EZ.out _) hB.size
                case rest =>
                  replace hS := hcut
                  clear hcut
                  go_upto_region 9 with fail
                  go_cut [] (fun wc => StE wr [(u5, a2), (u6, b1), (u7, c1), (u8, d1)] wc)
                  case first =>
                    obtain ⟨p8, X8, Y8, rfl, hp8, c80, c81, f80, f81, hX8, hY8, hV8⟩ := hS.2.1 (u8, d0) (by simp)
                    obtain ⟨p7, X7, Y7, rfl, hp7, c70, c71, f70, f71, hX7, hY7, hV7⟩ := hS.2.1 (u7, c1) (by simp)
                    go_wp2_with fail
                    refine (wmixed_is _ _ _ _ _ hX8 hY8 hX7 hY7).mono ?_
                    rintro e w2 ⟨z0, z1, rfl, hb2, k0, k1, ez⟩
                    have EZ : Hid (wv z0 z1 = d1) := by
                      show wv z0 z1 = _
                      have ez' := show wv z0 z1 = _ from ez
                      rw [hV8, hV7] at ez'
                      rw [H6.out]
                      exact ez'
                    clear ez
                    have d80 := hb2.cell c80
                    have d81 := hb2.cell c81
                    have e80 := hb2.frozen c80 f80
                    have e81 := hb2.frozen c81 f81
                    go_wp2_with fail
                    go_meet
                    case rel =>
                      have hB : Bel wc w2 := by (repeat (first | exact Bel.refl _ | assumption | refine Bel.step_alloc ?_ _ | refine Bel.step_drew ?_ | refine Bel.step_drewN ?_ _ | refine Bel.step_set ?_ (by simp <;> omega) _ | refine Bel.trans ?_ (by assumption)))
                      exact hS.put hB 3 rfl k0 k1 EZ.out
                  case rest =>
                    replace hS := hcut
                    clear hcut
                    go_upto_region 10 with fail
                    go_cut [] (fun wc => StE wr [(u5, a3), (u6, b1), (u7, c1), (u8, d1)] wc)
                    case first =>
                      obtain ⟨p5, X5, Y5, rfl, hp5, c50, c51, f50, f51, hX5, hY5, hV5⟩ := hS.2.1 (u5, a2) (by simp)
                      obtain ⟨p8, X8, Y8, rfl, hp8, c80, c81, f80, f81, hX8, hY8, hV8⟩ := hS.2.1 (u8, d1) (by simp)
                      go_wp2_with fail
                      refine (wplus_is _ _ _ _ _ hX5 hY5 hX8 hY8).mono ?_
                      rintro e w2 ⟨z0, z1, rfl, hb2, k0, k1, ez⟩
                      have EZ : Hid (wv z0 z1 = a3) := by
                        show wv z0 z1 = _
                        have ez' := show wv z0 z1 = _ from ez
                        rw [hV5, hV8] at ez'
                        rw [H7.out]
                        exact ez'
                      clear ez
                      have d50 := hb2.cell c50
                      have d51 := hb2.cell c51
                      have e50 := hb2.frozen c50 f50
                      have e51 := hb2.frozen c51 f51
                      go_wp2_with fail
                      go_meet
                      case rel =>
                        have hB : Bel wc w2 := by (repeat (first | exact Bel.refl _ | assumption | refine Bel.step_alloc ?_ _ | refine Bel.step_drew ?_ | refine Bel.step_drewN ?_ _ | refine Bel.step_set ?_ (by simp <;> omega) _ | refine Bel.trans ?_ (by assumption)))
                        exact hS.put hB 0 rfl k0 k1 EZ.out
                    case rest =>
                      replace hS := hcut
                      clear hcut
                      go_upto_region 11 with fail
                      go_cut [] (fun wc => StE wr [(u5, a3), (u6, b1), (u7, c1), (u8, d2)] wc)
                      case first =>
                        obtain ⟨p8, X8, Y8, rfl, hp8, c80, c81, f80, f81, hX8, hY8, hV8⟩ := hS.2.1 (u8, d1) (by simp)
                        go_wp2_with fail
                        refine (wturned_is _ _ _ _ hX8 hY8 (by decide)).mono ?_
                        rintro e w2 ⟨z0, z1, rfl, hb2, k0, k1, ez⟩
                        have EZ : Hid (wv z0 z1 = d2) := by
                          show wv z0 z1 = _
                          have ez' := show wv z0 z1 = _ from ez
                          rw [hV8] at ez'
                          rw [H8.out]
                          exact ez'
                        clear ez
                        have d80 := hb2.cell c80
                        have d81 := hb2.cell c81
                        have e80 := hb2.frozen c80 f80
                        have e81 := hb2.frozen c81 f81
                        go_wp2_with fail
                        go_meet
                        case rel =>
                          have hB : Bel wc w2 := by (repeat (first | exact Bel.refl _ | assumption | refine Bel.step_alloc ?_ _ | refine Bel.step_drew ?_ | refine Bel.step_drewN ?_ _ | refine Bel.step_set ?_ (by simp <;> omega) _ | refine Bel.trans ?_ (by assumption)))
                          exact hS.put hB 3 rfl k0 k1 EZ.out
                      case rest =>
                        replace hS := hcut
                        clear hcut
                        go_upto_region 12 with fail
                        go_cut [] (fun wc => StE wr [(u5, a3), (u6, b1), (u7, c1), (u8, d3)] wc)
                        case first =>
                          obtain ⟨p8, X8, Y8, rfl, hp8, c80, c81, f80, f81, hX8, hY8, hV8⟩ := hS.2.1 (u8, d2) (by simp)
                          obtain ⟨p5, X5, Y5, rfl, hp5, c50, c51, f50, f51, hX5, hY5, hV5⟩ := hS.2.1 (u5, a3) (by simp)
                          go_wp2_with fail
                          refine (wmixed_is _ _ _ _ _ hX8 hY8 hX5 hY5).mono ?_
                          rintro e w2 ⟨z0, z1, rfl, hb2, k0, k1, ez⟩
                          have EZ : Hid (wv z0 z1 = d3) := by
                            show wv z0 z1 = _
                            have ez' := show wv z0 z1 = _ from ez
                            rw [hV8, hV5] at ez'
                            rw [H9.out]
                            exact ez'
                          clear ez
                          have d80 := hb2.cell c80
                          have d81 := hb2.cell c81
                          have e80 := hb2.frozen c80 f80
                          have e81 := hb2.frozen c81 f81
                          go_wp2_with fail
                          go_meet
                          case rel =>
                            have hB : Bel wc w2 := by (repeat (first | exact Bel.refl _ | assumption | refine Bel.step_alloc ?_ _ | refine Bel.step_drew ?_ | refine Bel.step_drewN ?_ _ | refine Bel.step_set ?_ (by simp <;> omega) _ | refine Bel.trans ?_ (by assumption)))
                            exact hS.put hB 3 rfl k0 k1 EZ.out
                        case rest =>
                          replace hS := hcut
                          clear hcut
                          go_upto_region 13 with fail
                          go_cut [] (fun wc => StE wr [(u5, a3), (u6, b1), (u7, c2), (u8, d3)] wc)
                          case first =>
                            obtain ⟨p7, X7, Y7, rfl, hp7, c70, c71, f70, f71, hX7, hY7, hV7⟩ := hS.2.1 (u7, c1) (by simp)
                            obtain ⟨p6, X6, Y6, rfl, hp6, c60, c61, f60, f61, hX6, hY6, hV6⟩ := hS.2.1 (u6, b1) (by simp)
                            go_wp2_with fail
                            refine (wplus_is _ _ _ _ _ hX7 hY7 hX6 hY6).mono ?_
                            rintro e w2 ⟨z0, z1, rfl, hb2, k0, k1, ez⟩
                            have EZ : Hid (wv z0 z1 = c2) := by
                              show wv z0 z1 = _
                              have ez' := show wv z0 z1 = _ from ez
                              rw [hV7, hV6] at ez'
                              rw [H10.out]
                              exact ez'
                            clear ez
                            have d70 := hb2.cell c70
                            have d71 := hb2.cell c71
                            have e70 := hb2.frozen c70 f70
                            have e71 := hb2.frozen c71 f71
                            go_wp2_with fail
                            go_meet
                            case rel =>
                              have hB : Bel wc w2 := by (repeat (first | exact Bel.refl _ | assumption | refine Bel.step_alloc ?_ _ | refine Bel.step_drew ?_ | refine Bel.step_drewN ?_ _ | refine Bel.step_set ?_ (by simp <;> omega) _ | refine Bel.trans ?_ (by assumption)))
                              exact hS.put hB 2 rfl k0 k1 EZ.out
                          case rest =>
                            replace hS := hcut
                            clear hcut
                            go_upto_region 14 with fail
                            go_cut [] (fun wc => StE wr [(u5, a3), (u6, b2), (u7, c2), (u8, d3)] wc)
                            case first =>
                              obtain ⟨p6, X6, Y6, rfl, hp6, c60, c61, f60, f61, hX6, hY6, hV6⟩ := hS.2.1 (u6, b1) (by simp)
                              go_wp2_with fail
                              refine (wturned_is _ _ _ _ hX6 hY6 (by decide)).mono ?_
                              rintro e w2 ⟨z0, z1, rfl, hb2, k0, k1, ez⟩
                              have EZ : Hid (wv z0 z1 = b2) := by
                                show wv z0 z1 = _
                                have ez' := show wv z0 z1 = _ from ez
                                rw [hV6] at ez'
                                rw [H11.out]
                                exact ez'
                              clear ez
                              have d60 := hb2.cell c60
                              have d61 := hb2.cell c61
                              have e60 := hb2.frozen c60 f60
                              have e61 := hb2.frozen c61 f61
                              go_wp2_with fail
                              go_meet
                              case rel =>
                                have hB : Bel wc w2 := by (repeat (first | exact Bel.refl _ | assumption | refine Bel.step_alloc ?_ _ | refine Bel.step_drew ?_ | refine Bel.step_drewN ?_ _ | refine Bel.step_set ?_ (by simp <;> omega) _ | refine Bel.trans ?_ (by assumption)))
                                exact hS.put hB 1 rfl k0 k1 EZ.out
                            case rest =>
                              replace hS := hcut
                              clear hcut
                              go_upto_region 15 with fail
                              go_cut [] (fun wc => StE wr [(u5, a3), (u6, b3), (u7, c2), (u8, d3)] wc)
                              case first =>
                                obtain ⟨p6, X6, Y6, rfl, hp6, c60, c61, f60, f61, hX6, hY6, hV6⟩ := hS.2.1 (u6, b2) (by simp)
                                obtain ⟨p7, X7, Y7, rfl, hp7, c70, c71, f70, f71, hX7, hY7, hV7⟩ := hS.2.1 (u7, c2) (by simp)
                                go_wp2_with fail
                                refine (wmixed_is _ _ _ _ _ hX6 hY6 hX7 hY7).mono ?_
                                rintro e w2 ⟨z0, z1, rfl, hb2, k0, k1, ez⟩
                                have EZ : Hid (wv z0 z1 = b3) := by
                                  show wv z0 z1 = _
                                  have ez' := show wv z0 z1 = _ from ez
                                  rw [hV6, hV7] at ez'
                                  rw [H12.out]
                                  exact ez'
                                clear ez
                                have d60 := hb2.cell c60
                                have d61 := hb2.cell c61
                                have e60 := hb2.frozen c60 f60
                                have e61 := hb2.frozen c61 f61
                                go_wp2_with fail
                                go_meet
                                case rel =>
                                  have hB : Bel wc w2 := by (repeat (first | exact Bel.refl _ | assumption | refine Bel.step_alloc ?_ _ | refine Bel.step_drew ?_ | refine Bel.step_drewN ?_ _ | refine Bel.step_set ?_ (by simp <;> omega) _ | refine Bel.trans ?_ (by assumption)))
                                  exact hS.put hB 1 rfl k0 k1 EZ.out
                              case rest =>
                                replace hS := hcut
                                clear hcut
                                go_upto_region 16 with fail
                                go_cut [] (fun wc => StE wr [(u5, a3), (u6, b3), (u7, c3), (u8, d3)] wc)
                                case first =>
                                  obtain ⟨p7, X7, Y7, rfl, hp7, c70, c71, f70, f71, hX7, hY7, hV7⟩ := hS.2.1 (u7, c2) (by simp)
                                  go_wp2_with fail
                                  refine (wturned_is _ _ _ _ hX7 hY7 (by decide)).mono ?_
                                  rintro e w2 ⟨z0, z1, rfl, hb2, k0, k1, ez⟩
                                  have EZ : Hid (wv z0 z1 = c3) := by
                                    show wv z0 z1 = _
                                    have ez' := show wv z0 z1 = _ from ez
                                    rw [hV7] at ez'
                                    rw [H13.out]
                                    exact ez'
                                  clear ez
                                  have d70 := hb2.cell c70
                                  have d71 := hb2.cell c71
                                  have e70 := hb2.frozen c70 f70
                                  have e71 := hb2.frozen c71 f71
                                  go_wp2_with fail
                                  go_meet
                                  case rel =>
                                    have hB : Bel wc w2 := by (repeat (first | exact Bel.refl _ | assumption | refine Bel.step_alloc ?_ _ | refine Bel.step_drew ?_ | refine Bel.step_drewN ?_ _ | refine Bel.step_set ?_ (by simp <;> omega) _ | refine Bel.trans ?_ (by assumption)))
                                    exact hS.put hB 2 rfl k0 k1 EZ.out
                                case rest =>
                                  replace hS := hcut
                                  clear hcut
                                  obtain ⟨p5, X5, Y5, rfl, hp5, c50, c51, f50, f51, hX5, hY5, hV5⟩ := hS.2.1 (u5, a3) (by simp)
                                  obtain ⟨p6, X6, Y6, rfl, hp6, c60, c61, f60, f61, hX6, hY6, hV6⟩ := hS.2.1 (u6, b3) (by simp)
                                  obtain ⟨p7, X7, Y7, rfl, hp7, c70, c71, f70, f71, hX7, hY7, hV7⟩ := hS.2.1 (u7, c3) (by simp)
                                  obtain ⟨p8, X8, Y8, rfl, hp8, c80, c81, f80, f81, hX8, hY8, hV8⟩ := hS.2.1 (u8, d3) (by simp)
                                  go_wp2_with fail
                                  go_roundg q
                                  case measure => omega
                                  case rel => exact ⟨wc.heap.size, 4, q, ⟨a3, b3, c3, d3⟩, rfl, by go_num, by omega, rfl, ⟨X5, Y5, X6, Y6, X7, Y7, X8, Y8, ⟨hX5, hY5, hX6, hY6, hX7, hY7, hX8, hY8⟩, ⟨by simp, by simp, by simp, by simp, by simp, by simp, by simp, by simp⟩, hV5, hV6, hV7, hV8⟩, HB.out.trans (hS.1.step_alloc _), HFIN.out⟩
    · obtain rfl : q = 0 := by omega
      go_wp2
      go_ret
      exact ⟨b', cap', rfl, hb, by rw [HRT.out]; exact h4'⟩

end Go.Proofs.YtgfildmmcbjpnabGreat
