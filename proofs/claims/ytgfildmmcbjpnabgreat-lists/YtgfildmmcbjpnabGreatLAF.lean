import Derived.Test.YtgfildmmcbjpnabGreatLAD
namespace Go.Proofs.YtgfildmmcbjpnabGreat
open Go.RowKit

theorem byte_bd (s : ByteArray) (k : Nat) (h : k < s.size) : 0 ≤ ((s[k]'h).toNat : Int) ∧ ((s[k]'h).toNat : Int) ≤ 255 := ⟨by omega, byte_lt _⟩

set_option maxRecDepth 100000 in
set_option maxHeartbeats 1600000 in
theorem read_any (s : ByteArray) (w : World) (hs : s.size = 8) :
    Calls Tryz.prog 111 #[.string s] w (RWord w Any2) := by
  have b0 := byte_bd s 0 (by omega)
  have b1 := byte_bd s 1 (by omega)
  have b2 := byte_bd s 2 (by omega)
  have b3 := byte_bd s 3 (by omega)
  have b4 := byte_bd s 4 (by omega)
  have b5 := byte_bd s 5 (by omega)
  have b6 := byte_bd s 6 (by omega)
  have b7 := byte_bd s 7 (by omega)
  go_enter Tryz.func111, Tryz.ntmps111
  go_wp2
  refine wp_loop_rounds 5 ?_
  rw [rounds_succ]
  go_wp2
  go_region
  go_wp2
  go_region
  go_wp2
  rw [rounds_succ]
  go_wp2
  go_region
  go_wp2
  go_region
  go_wp2
  rw [rounds_succ]
  go_wp2
  go_region
  go_wp2
  go_region
  go_wp2
  rw [rounds_succ]
  go_wp2
  go_region
  go_wp2
  go_region
  go_wp2
  rw [rounds_succ]
  go_wp2
  exact bodyPost_ret (v := .agg #[.int .i64 (((s[7].toNat * 256 + s[6].toNat) * 256 + s[5].toNat) * 256 + s[4].toNat), .int .i64 (((s[3].toNat * 256 + s[2].toNat) * 256 + s[1].toNat) * 256 + s[0].toNat)]) (by simp [results, Tryz.results111, go_sem]) rfl ⟨_, _, rfl, by (repeat (first | exact Bel.refl _ | assumption | refine Bel.step_alloc ?_ _ | refine Bel.step_drew ?_ | refine Bel.step_drewN ?_ _ | refine Bel.step_set ?_ (by simp <;> omega) _ | refine Bel.trans ?_ (by assumption))), ⟨by omega, by omega⟩, ⟨by omega, by omega⟩, trivial⟩

theorem owns_later {w w' : World} {base : Nat} {e : TypeId} {size : Nat} {v : Value} {n : Nat} {xs : List Value} (h : w.ownsRow base e size v n xs) (k : Bel w w') : w'.ownsRow base e size v n xs := by
  obtain ⟨h1, h2⟩ := h
  refine ⟨h1, ?_⟩
  rcases h2 with h2 | ⟨g, cap, cur, hv, hg, hh, r⟩
  · exact Or.inl h2
  · exact Or.inr ⟨g, cap, cur, hv, hg, by rw [k.block g (Array.getElem?_eq_some_iff.1 hh).1]; exact hh, r⟩
theorem Tryz.infoWord : (Tryz.prog.info? 129).map (fun i => (i.zero, i.size, i.bytes)) = some (some (.agg #[.int .i64 0, .int .i64 0]), 2, 16) := by kernel_rfl
/-- Words, as cells. -/
def wcellsS (xs : List (Int × Int)) : List Value := xs.flatMap fun p => [.int .i64 p.1, .int .i64 p.2]
theorem wcellsS_snoc (xs : List (Int × Int)) (p : Int × Int) : wcellsS (xs ++ [p]) = wcellsS xs ++ [.int .i64 p.1, .int .i64 p.2] := by simp [wcellsS]
theorem four_of_owns {w : World} {base n : Nat} {v : Value} {xs : List (Int × Int)} (hn : n = 4) (h : w.ownsRow base 129 2 v n (wcellsS xs)) (hx : ∀ p ∈ xs, W32 p.1 ∧ W32 p.2) (hl : xs.length = 4) :
    ∃ g cap, v = .slice (some ⟨g, 0, none⟩) 4 cap ∧ base ≤ g ∧ Four w g := by
  subst hn
  rcases h.2 with ⟨_, h2⟩ | ⟨g, cap, cur, hv, hg, hh, r1, r2, r3, r4⟩
  · cases h2
  · refine ⟨g, cap, hv, hg, ?_⟩
    match xs, hl with
    | [p0, p1, p2, p3], _ =>
      have hc := h.cells (g := g) (by rw [hv]; rfl)
      refine ⟨p0.1, p0.2, p1.1, p1.2, p2.1, p2.2, p3.1, p3.2, ⟨(hx p0 (by simp)).1, (hx p0 (by simp)).2, (hx p1 (by simp)).1, (hx p1 (by simp)).2, (hx p2 (by simp)).1, (hx p2 (by simp)).2, (hx p3 (by simp)).1, (hx p3 (by simp)).2⟩, ?_, ?_, ?_, ?_, ?_, ?_, ?_, ?_⟩
      · exact hc 0 _ rfl
      · exact hc 1 _ rfl
      · exact hc 2 _ rfl
      · exact hc 3 _ rfl
      · exact hc 4 _ rfl
      · exact hc 5 _ rfl
      · exact hc 6 _ rfl
      · exact hc 7 _ rfl

theorem numOf4 (s : ByteArray) (h : s.size = 4) : W32 (numOf s.data.toList) := by
  have h1 := numOf_nonneg s.data.toList 4
  have h2 := numOf_lt s.data.toList 4
  rw [List.take_of_length_le (by simp; omega)] at h1 h2
  exact ⟨h1, by simpa using h2⟩

def Bx (w : World) (vs : List Value) (wc : World) : Prop := Bel w wc ∧ ∀ v ∈ vs, BoxW w.heap.size wc v
theorem Bx.later {w a : World} {vs : List Value} (h : Bx w vs a) {w' : World} (k : Bel a w') : Bx w vs w' := ⟨h.1.trans k, fun v hv => (h.2 v hv).later k⟩
theorem Bx.cons {w a : World} {vs : List Value} (h : Bx w vs a) {v : Value} (k : BoxW w.heap.size a v) : Bx w (v :: vs) a := ⟨h.1, fun u hu => by
  rcases List.mem_cons.1 hu with rfl | hu
  · exact k
  · exact h.2 u hu⟩
theorem BoxW.new {B : Nat} {w : World} (h : B ≤ w.heap.size) {x y : Int} (hx : W32 x) (hy : W32 y) (t : TypeId) : BoxW B (w.alloc (.cells #[.int .i64 x, .int .i64 y] t)) (.pointer (some ⟨w.heap.size, 0, none⟩)) :=
  ⟨w.heap.size, x, y, rfl, h, by simp, by simp, by simp, by simp, hx, hy⟩
def Names (wc : World) (bn : Nat) : Prop := ∀ j : Nat, j < 4 → ∃ s : ByteArray, s.size = 8 ∧ wc.cell? ⟨bn, j, none⟩ = some (.string s)
theorem Names.later {a w : World} {bn : Nat} (h : Names a bn) (k : Bel a w) : Names w bn := fun j hj => by
  obtain ⟨s, hs, hc⟩ := h j hj
  exact ⟨s, hs, k.cell hc⟩

end Go.Proofs.YtgfildmmcbjpnabGreat

namespace Go.Proofs.YtgfildmmcbjpnabGreat
open Go.RowKit

theorem names0 (w : World) (a b c d : ByteArray) (ha : a.size = 8) (hb : b.size = 8) (hc : c.size = 8) (hd : d.size = 8) (t : TypeId) (bn : Nat) (hbn : bn = w.heap.size) : Names (w.alloc (.cells #[.string a, .string b, .string c, .string d] t)) bn := by
  subst hbn
  intro j hj
  match j, hj with
  | 0, _ => exact ⟨a, ha, by simp⟩
  | 1, _ => exact ⟨b, hb, by simp⟩
  | 2, _ => exact ⟨c, hc, by simp⟩
  | 3, _ => exact ⟨d, hd, by simp⟩

/-- The words gathered so far lie in a row of their own, behind a world in which the boxes and the names lie. -/
def Gath (w : World) (vs : List Value) (bn : Nat) (v : Value) (k : Nat) (xs : List (Int × Int)) (wr : World) : Prop :=
  ∃ S : World, Bx w vs S ∧ Names S bn ∧ Bel S wr ∧ wr.ownsRow S.heap.size 129 2 v k (wcellsS xs)
theorem Gath.step {w : World} {vs : List Value} {bn : Nat} {v v' : Value} {k : Nat} {xs : List (Int × Int)} {wr W w' : World} {p : Int × Int} {S : World} (h1 : Bx w vs S) (h2 : Names S bn) (h3 : Bel S wr) (h4 : wr.ownsRow S.heap.size 129 2 v k (wcellsS xs))
    (hW : Bel wr W) (hg : W.grownBy w' v.ownBlock) (ho : w'.ownsRow S.heap.size 129 2 v' (k + 1) (wcellsS xs ++ [.int .i64 p.1, .int .i64 p.2])) : Gath w vs bn v' (k + 1) (xs ++ [p]) w' := by
  refine ⟨S, h1, h2, ?_, by rw [wcellsS_snoc]; exact ho⟩
  exact (h3.trans hW).grown hg fun g hg' => (h4.lt g hg').1
theorem keep8 {w w' : World} {a0 a1 a2 a3 a4 a5 a6 a7 : Addr} {v0 v1 v2 v3 v4 v5 v6 v7 : Value} (h : Bel w w') (c0 : w.cell? a0 = some v0) (c1 : w.cell? a1 = some v1) (c2 : w.cell? a2 = some v2) (c3 : w.cell? a3 = some v3) (c4 : w.cell? a4 = some v4) (c5 : w.cell? a5 = some v5) (c6 : w.cell? a6 = some v6) (c7 : w.cell? a7 = some v7) :
    Bel w w' ∧ w'.cell? a0 = some v0 ∧ w'.cell? a1 = some v1 ∧ w'.cell? a2 = some v2 ∧ w'.cell? a3 = some v3 ∧ w'.cell? a4 = some v4 ∧ w'.cell? a5 = some v5 ∧ w'.cell? a6 = some v6 ∧ w'.cell? a7 = some v7 := ⟨h, h.cell c0, h.cell c1, h.cell c2, h.cell c3, h.cell c4, h.cell c5, h.cell c6, h.cell c7⟩
theorem pad_step {a t r : Nat} (hr : r = 7 - a % 8) (h7 : ¬ a % 8 = 7) (h : a + r = t + (7 - t % 8)) : a + 1 + (7 - (a + 1) % 8) = t + (7 - t % 8) := by omega
theorem cell_two' (w : World) (a b : Value) (t : TypeId) (n : Nat) (hn : n = w.heap.size) : ∀ j u, [a, b][j]? = some u → (w.alloc (.cells #[a, b] t)).cell? ((⟨n, 0, none⟩ : Addr).add j) = some u := by
  subst hn; exact cell_two_new w a b t

set_option maxRecDepth 100000 in
set_option maxHeartbeats 4000000 in
theorem hash_any (key t : ByteArray) (w : World) (hk : key.size = 16) (ht : t.size ≤ 1099511627776) :
    Calls Tryz.prog 93 #[.string key, .string t] w (RWord w Any2) := by
  obtain ⟨i0, hi, hz0, hz1, hz2⟩ := info_parts Tryz.infoWord
  go_enter Tryz.func93, Tryz.ntmps93
  go_wp2_with fail
  refine (read_any _ _ (by simp; omega)).mono ?_
  rintro e w1 ⟨k0, k1, rfl, hb1, hk0, hk1, -⟩
  have B0 : Bx w [.pointer (some ⟨w1.heap.size, 0, none⟩), .pointer (some ⟨w.heap.size, 0, none⟩)] (w1.alloc (.cells #[.int .i64 k0, .int .i64 k1] 129)) := by
    have h0 : Bx w [] (w.alloc (.cells #[.int .i64 0, .int .i64 0] 129)) := ⟨by (repeat (first | exact Bel.refl _ | assumption | refine Bel.step_alloc ?_ _ | refine Bel.step_drew ?_ | refine Bel.step_drewN ?_ _ | refine Bel.step_set ?_ (by simp <;> omega) _ | refine Bel.trans ?_ (by assumption))), fun v hv => by simp at hv⟩
    have h1 := (h0.cons (BoxW.new (Nat.le_refl _) (x := 0) (y := 0) ⟨by decide, by decide⟩ ⟨by decide, by decide⟩ 129)).later hb1
    exact (h1.later (Bel.step_alloc (Bel.refl _) _)).cons (BoxW.new h1.1.size hk0 hk1 _)
  clear hb1
  go_wp2_with fail
  refine (read_any _ _ (by simp; omega)).mono ?_
  rintro e w2 ⟨l0, l1, rfl, hb2, hl0, hl1, -⟩
  have B1 := (B0.later (hb2.step_alloc (.cells #[.int .i64 l0, .int .i64 l1] 129))).cons (BoxW.new (B0.1.trans hb2).size hl0 hl1 _)
  clear hb2 B0
  go_wp2
  go_loopg [8, 9] 4 (fun g v i wr => ∃ (k : Nat) (xs : List (Int × Int)), g = 4 - k ∧ k ≤ 4 ∧ i = .int .i64 k ∧ xs.length = k ∧ (∀ p ∈ xs, W32 p.1 ∧ W32 p.2) ∧ Gath w [.pointer (some ⟨w2.heap.size, 0, none⟩), .pointer (some ⟨w1.heap.size, 0, none⟩), .pointer (some ⟨w.heap.size, 0, none⟩)] (w2.heap.size + 1) v k xs wr)
  case atStart => exact ⟨0, [], rfl, by omega, rfl, rfl, fun p hp => by simp at hp, _, B1.later (by (repeat (first | exact Bel.refl _ | assumption | refine Bel.step_alloc ?_ _ | refine Bel.step_drew ?_ | refine Bel.step_drewN ?_ _ | refine Bel.step_set ?_ (by simp <;> omega) _ | refine Bel.trans ?_ (by assumption)))), names0 _ _ _ _ _ rfl rfl rfl rfl _ _ (by simp), Bel.refl _, World.ownsRow_nil _ _ _ _⟩
  case round =>
    obtain ⟨k, xs, hg, hk4, rfl, hxl, hxs, S, hbx0, hnm0, hSb, hown⟩ := hrel
    have hbx := hbx0.later hSb
    have hnm := hnm0.later hSb
    by_cases hlt : k < 4
    · obtain ⟨s, hs8, hsc⟩ := hnm k hlt
      obtain ⟨pl, lx, ly, el, hpl, cl0, cl1, fl0, fl1, hlx, hly⟩ := hbx.2 _ (List.mem_cons_self ..)
      obtain ⟨pk, kx, ky, ek, hpk, ck0, ck1, fk0, fk1, hkx, hky⟩ := hbx.2 (.pointer (some ⟨w1.heap.size, 0, none⟩)) (by simp)
      simp only [Value.pointer.injEq, Option.some.injEq, Addr.mk.injEq, and_true] at el ek
      subst el ek
      have h4a : (s.extract 0 4).size = 4 := by simp; omega
      have h4b : (s.extract 4 8).size = 4 := by simp; omega
      have q1 : w1.heap.size < wr.heap.size := World.block_lt_of_cell? wr _ ck0
      have q2 : w2.heap.size < wr.heap.size := World.block_lt_of_cell? wr _ cl0
      have hna := numOf4 _ h4a
      have hnb := numOf4 _ h4b
      by_cases hpar : ((k : Int) % 2 == 0) = true
      · go_wp2_with fail
        refine (number_any _ _ (by omega)).mono ?_
        rintro e w3 ⟨rfl, rfl⟩
        generalize numOf (s.extract 0 4).data.toList = na at *
        go_wp2_with fail
        refine (number_any _ _ (by omega)).mono ?_
        rintro e w4 ⟨rfl, rfl⟩
        generalize numOf (s.extract 4 8).data.toList = nb at *
        go_wp2_with fail
        refine (mixed_any _ _ _ _ _ hna hnb hkx hky).mono ?_
        rintro e w5 ⟨m0, m1, rfl, hb5, hm0, hm1, -⟩
        obtain ⟨hq5, hf5⟩ := hb5.cells
        have hB5 : Bel wr w5 := by (repeat (first | exact Bel.refl _ | assumption | refine Bel.step_alloc ?_ _ | refine Bel.step_drew ?_ | refine Bel.step_drewN ?_ _ | refine Bel.step_set ?_ (by simp <;> omega) _ | refine Bel.trans ?_ (by assumption)))
        have hz5 := hb5.size
        simp only [World.size_alloc] at hz5
        have hB6 : Bel wr ((w5.setCell ⟨wr.heap.size, 0, none⟩ (.int .i64 m0)).setCell ⟨wr.heap.size, 1, none⟩ (.int .i64 m1)) := by (repeat (first | exact Bel.refl _ | assumption | refine Bel.step_alloc ?_ _ | refine Bel.step_drew ?_ | refine Bel.step_drewN ?_ _ | refine Bel.step_set ?_ (by simp <;> omega) _ | refine Bel.trans ?_ (by assumption)))
        go_wp2_with (first | (at_builtin; refine wpList_append_own _ rfl _ _ 154 rfl S.heap.size 129 i0 (.agg #[.int .i64 0, .int .i64 0]) 2 16 Tryz.underlying154 hi hz0 hz1 hz2 rfl (by decide) _ k (wcellsS xs) rfl ?o1 ⟨w5.heap.size, 0, none⟩ 1 1 [.int .i64 m0, .int .i64 m1] rfl rfl ?c1 ?c2 ?c3 ?c4 ?c5 ?_))
        case o1 => exact (owns_later hown hB6).alloc _
        case c1 => exact cell_two' _ _ _ _ _ (by simp)
        case c2 => intro u hu; simp at hu; rcases hu with rfl | rfl <;> rfl
        case c3 => unfold maxLen; omega
        case c4 => omega
        case c5 => have := hSb.size; simp; omega
        intro v' w6 hown' hgrow _
        have G := Gath.step (p := (m0, m1)) hbx0 hnm0 hSb hown (hB6.step_alloc _) hgrow hown'
        clear hown' hgrow
        go_wp2_with fail
        go_roundg (4 - (k + 1))
        case measure => omega
        case rel => exact ⟨k + 1, xs ++ [(m0, m1)], rfl, by omega, by go_num, by simp [hxl], fun p hp => by rcases List.mem_append.1 hp with h | h; exact hxs p h; (simp at h; subst h; exact ⟨hm0, hm1⟩), G⟩
      · have hpar' : ((k : Int) % 2 == 0) = false := by simpa using hpar
        clear hpar
        go_wp2_with fail
        refine (number_any _ _ (by omega)).mono ?_
        rintro e w3 ⟨rfl, rfl⟩
        generalize numOf (s.extract 0 4).data.toList = na at *
        go_wp2_with fail
        refine (number_any _ _ (by omega)).mono ?_
        rintro e w4 ⟨rfl, rfl⟩
        generalize numOf (s.extract 4 8).data.toList = nb at *
        go_wp2_with fail
        refine (mixed_any _ _ _ _ _ hna hnb hlx hly).mono ?_
        rintro e w5 ⟨m0, m1, rfl, hb5, hm0, hm1, -⟩
        obtain ⟨hq5, hf5⟩ := hb5.cells
        have hB5 : Bel wr w5 := by (repeat (first | exact Bel.refl _ | assumption | refine Bel.step_alloc ?_ _ | refine Bel.step_drew ?_ | refine Bel.step_drewN ?_ _ | refine Bel.step_set ?_ (by simp <;> omega) _ | refine Bel.trans ?_ (by assumption)))
        have hz5 := hb5.size
        simp only [World.size_alloc] at hz5
        have hB6 : Bel wr ((w5.setCell ⟨wr.heap.size, 0, none⟩ (.int .i64 m0)).setCell ⟨wr.heap.size, 1, none⟩ (.int .i64 m1)) := by (repeat (first | exact Bel.refl _ | assumption | refine Bel.step_alloc ?_ _ | refine Bel.step_drew ?_ | refine Bel.step_drewN ?_ _ | refine Bel.step_set ?_ (by simp <;> omega) _ | refine Bel.trans ?_ (by assumption)))
        go_wp2_with (first | (at_builtin; refine wpList_append_own _ rfl _ _ 154 rfl S.heap.size 129 i0 (.agg #[.int .i64 0, .int .i64 0]) 2 16 Tryz.underlying154 hi hz0 hz1 hz2 rfl (by decide) _ k (wcellsS xs) rfl ?o1 ⟨w5.heap.size, 0, none⟩ 1 1 [.int .i64 m0, .int .i64 m1] rfl rfl ?c1 ?c2 ?c3 ?c4 ?c5 ?_))
        case o1 => exact (owns_later hown hB6).alloc _
        case c1 => exact cell_two' _ _ _ _ _ (by simp)
        case c2 => intro u hu; simp at hu; rcases hu with rfl | rfl <;> rfl
        case c3 => unfold maxLen; omega
        case c4 => omega
        case c5 => have := hSb.size; simp; omega
        intro v' w6 hown' hgrow _
        have G := Gath.step (p := (m0, m1)) hbx0 hnm0 hSb hown (hB6.step_alloc _) hgrow hown'
        clear hown' hgrow
        go_wp2_with fail
        go_roundg (4 - (k + 1))
        case measure => omega
        case rel => exact ⟨k + 1, xs ++ [(m0, m1)], rfl, by omega, by go_num, by simp [hxl], fun p hp => by rcases List.mem_append.1 hp with h | h; exact hxs p h; (simp at h; subst h; exact ⟨hm0, hm1⟩), G⟩
    · have hk : k = 4 := by omega
      subst hk
      obtain ⟨g, cap, rfl, hg4, h4⟩ := four_of_owns rfl hown hxs hxl
      have hS : St w g [.pointer (some ⟨w.heap.size, 0, none⟩)] wr := ⟨hbx.1, h4, fun v hv => hbx.2 v (by simp at hv; simp [hv])⟩
      clear hown hbx hbx0 hnm hnm0 hSb h4 hxs hxl
      go_wp2_with fail
      go_loopg [1] (7 - t.size % 8) (fun r x wx => wx = wr ∧ ∃ (s : ByteArray), x = .string s ∧ r = 7 - s.size % 8 ∧ s.size + r = t.size + (7 - t.size % 8))
      case atStart => exact ⟨rfl, t, rfl, rfl, rfl⟩
      case round =>
        obtain ⟨rfl, s, rfl, hr, hsz⟩ := hrel
        have HZ : Hid (s.size + gk = t.size + (7 - t.size % 8)) := hsz
        have hsb : s.size ≤ 1099511627790 := by omega
        clear hsz
        by_cases h7 : s.size % 8 = 7
        · have h7' : ((s.size : Int) % 8 != 7) = false := by rw [bne_eq_false_iff_eq]; omega
          have hcv := conv_one
          have h1z := one_size
          go_wp2_with fail
          have hsz1 : (s ++ one ((t.size : Int) % 256)).size = s.size + 1 := by simp [one_size]
          generalize s ++ one ((t.size : Int) % 256) = y at *
          have hy8 : y.size % 8 = 0 := by omega
          have hyb : y.size ≤ 1099511627791 := by omega
          clear hsz1 h7' h7 HZ hr hcv h1z hsb
          have hS' := hS.later (Bel.step_alloc (Bel.refl _) (.cells #[.int .u8 ((t.size : Int) % 256)] 5))
          clear hS
          go_loopg [8, 14] (y.size / 8) (fun r v i wx => ∃ (b' cap' q : Nat), v = .slice (some ⟨b', 0, none⟩) 4 cap' ∧ i = .int .i64 (8 * q) ∧ q + r = y.size / 8 ∧ St w b' [.pointer (some ⟨w.heap.size, 0, none⟩)] wx)
          case atStart => exact ⟨g, cap, 0, rfl, rfl, by omega, hS'⟩
          case round =>
            obtain ⟨b', cap', q, rfl, rfl, hq, hS⟩ := hrel
            clear hS'
            by_cases hlt : 8 * q < y.size
            · have hx8 : (y.extract (8 * q) (8 * q + 8)).size = 8 := by simp; omega
              go_upto_region 22 with fail
              go_cut [15] (fun u15 wc => St w b' [.pointer (some ⟨w.heap.size, 0, none⟩), u15] wc)
              case first =>
                obtain ⟨x0, x1, x2, x3, x4, x5, x6, x7, ⟨g0, g1, g2, g3, g4, g5, g6, g7⟩, c0, c1, c2, c3, c4, c5, c6, c7⟩ := hS.2.1
                go_wp2_with fail
                refine (read_any _ _ hx8).mono ?_
                rintro e w2' ⟨z0, z1, rfl, hb2, k0, k1, -⟩
                go_wp2_with fail
                go_meet
                case rel =>
                  have hB : Bel wr w2' := by (repeat (first | exact Bel.refl _ | assumption | refine Bel.step_alloc ?_ _ | refine Bel.step_drew ?_ | refine Bel.step_drewN ?_ _ | refine Bel.step_set ?_ (by simp <;> omega) _ | refine Bel.trans ?_ (by assumption)))
                  exact ((hS.later hB).later (Bel.step_alloc (Bel.refl _) _)).more ⟨w2'.heap.size, z0, z1, rfl, (hS.1.trans hB).size, by simp, by simp, by simp, by simp, k0, k1⟩
              case rest =>
                replace hS := hcut
                clear hcut
                go_upto_region 23 with fail
                go_cut [16] (fun u16 wc => St w b' [.pointer (some ⟨w.heap.size, 0, none⟩), u15, u16] wc)
                case first =>
                  obtain ⟨x0, x1, x2, x3, x4, x5, x6, x7, ⟨g0, g1, g2, g3, g4, g5, g6, g7⟩, c0, c1, c2, c3, c4, c5, c6, c7⟩ := hS.2.1
                  obtain ⟨p15, X15, Y15, E15, hp15, c150, c151, f150, f151, hX15, hY15⟩ := hS.2.2 (u15) (by simp)
                  subst E15
                  go_region_held3 (fun w' => Bel wc w' ∧ w'.cell? ⟨b', 6, none⟩ = some (.int .i64 x6) ∧ w'.cell? ⟨b', 7, none⟩ = some (.int .i64 x7) ∧ w'.cell? ⟨p15, 0, none⟩ = some (.int .i64 X15) ∧ w'.cell? ⟨p15, 1, none⟩ = some (.int .i64 Y15)) ((refine keep4 ?_ c6 c7 c150 c151; (repeat (first | exact Bel.refl _ | assumption | refine Bel.step_alloc ?_ _ | refine Bel.step_drew ?_ | refine Bel.step_drewN ?_ _ | refine Bel.step_set ?_ (by simp <;> omega) _ | refine Bel.trans ?_ (by assumption))))) ((go_at_call 112; refine (mixed_any _ _ _ _ _ g6 g7 hX15 hY15).mono ?_; rintro e w2' ⟨z0, z1, rfl, hb2, k0, k1, -⟩; obtain ⟨hq2, hf2⟩ := hb2.cells))
                  all_goals
                    go_wp2_with fail
                    go_meet
                    case rel =>
                      have hB : Bel wc w2' := by (repeat (first | exact Bel.refl _ | assumption | refine Bel.step_alloc ?_ _ | refine Bel.step_drew ?_ | refine Bel.step_drewN ?_ _ | refine Bel.step_set ?_ (by simp <;> omega) _ | refine Bel.trans ?_ (by assumption)))
                      have hw := (hS.1.trans hB).size
                      have hw1 := hS.1.size
                      first
                        | (refine ((hS.later hB).later (Bel.step_alloc (Bel.refl _) _)).more ⟨w2'.heap.size, z0, z1, rfl, hw, ?_, ?_, ?_, ?_, k0, k1⟩ <;> (simp; done))
                        | exact (((hS.later hB).set (p := ⟨wc.heap.size, 0, none⟩) hw1 k0).set (p := ⟨wc.heap.size, 1, none⟩) hw1 k1).more (BoxW.stored hw1 ((hq2 _ _ (by simp)).trans (by simp; rfl)) ((hq2 _ _ (by simp)).trans (by simp; rfl)) ((hf2 _ _ (by simp)).trans (by simp)) ((hf2 _ _ (by simp)).trans (by simp)) k0 k1)
                case rest =>
                  replace hS := hcut
                  clear hcut
                  go_upto_region 24 with fail
                  go_cut [8] (fun v8 wc => ∃ b2 capb2 : Nat, v8 = .slice (some ⟨b2, 0, none⟩) 4 capb2 ∧ St w b2 [.pointer (some ⟨w.heap.size, 0, none⟩), u15, u16] wc)
                  case first =>
                    obtain ⟨x0, x1, x2, x3, x4, x5, x6, x7, ⟨g0, g1, g2, g3, g4, g5, g6, g7⟩, c0, c1, c2, c3, c4, c5, c6, c7⟩ := hS.2.1
                    obtain ⟨p16, X16, Y16, E16, hp16, c160, c161, f160, f161, hX16, hY16⟩ := hS.2.2 (u16) (by simp)
                    subst E16
                    go_region_held3 (fun w' => Bel wc w' ∧ w'.cell? ⟨b', 0, none⟩ = some (.int .i64 x0) ∧ w'.cell? ⟨b', 1, none⟩ = some (.int .i64 x1) ∧ w'.cell? ⟨b', 2, none⟩ = some (.int .i64 x2) ∧ w'.cell? ⟨b', 3, none⟩ = some (.int .i64 x3) ∧ w'.cell? ⟨b', 4, none⟩ = some (.int .i64 x4) ∧ w'.cell? ⟨b', 5, none⟩ = some (.int .i64 x5) ∧ w'.cell? ⟨p16, 0, none⟩ = some (.int .i64 X16) ∧ w'.cell? ⟨p16, 1, none⟩ = some (.int .i64 Y16)) ((refine keep8 ?_ c0 c1 c2 c3 c4 c5 c160 c161; (repeat (first | exact Bel.refl _ | assumption | refine Bel.step_alloc ?_ _ | refine Bel.step_drew ?_ | refine Bel.step_drewN ?_ _ | refine Bel.step_set ?_ (by simp <;> omega) _ | refine Bel.trans ?_ (by assumption))))) ((go_at_call 113; refine (round_any _ _ _ _ (by decide) (by decide) ⟨_, _, _, _, _, _, _, _, ⟨g0, g1, g2, g3, g4, g5, hX16, hY16⟩, by simp, by simp, by simp, by simp, by simp, by simp, by simp, by simp⟩).mono ?_; rintro e w2' ⟨b2, capb2, rfl, hb2, hF2⟩))
                    all_goals
                      go_wp2_with fail
                      go_meet
                      case rel =>
                        have hB : Bel wc w2' := by (repeat (first | exact Bel.refl _ | assumption | refine Bel.step_alloc ?_ _ | refine Bel.step_drew ?_ | refine Bel.step_drewN ?_ _ | refine Bel.step_set ?_ (by simp <;> omega) _ | refine Bel.trans ?_ (by assumption)))
                        exact ⟨b2, capb2, rfl, (hS.later hB).1, hF2, (hS.later hB).2.2⟩
                  case rest =>
                    obtain ⟨b2, capb2, rfl, hS'⟩ := hcut
                    replace hS := hS'
                    clear hS'
                    go_upto_region 25 with fail
                    go_cut [17] (fun u17 wc => St w b2 [.pointer (some ⟨w.heap.size, 0, none⟩), u15, u16, u17] wc)
                    case first =>
                      obtain ⟨x0, x1, x2, x3, x4, x5, x6, x7, ⟨g0, g1, g2, g3, g4, g5, g6, g7⟩, c0, c1, c2, c3, c4, c5, c6, c7⟩ := hS.2.1
                      obtain ⟨p15, X15, Y15, E15, hp15, c150, c151, f150, f151, hX15, hY15⟩ := hS.2.2 (u15) (by simp)
                      subst E15
                      go_region_held3 (fun w' => Bel wc w' ∧ w'.cell? ⟨b2, 0, none⟩ = some (.int .i64 x0) ∧ w'.cell? ⟨b2, 1, none⟩ = some (.int .i64 x1) ∧ w'.cell? ⟨p15, 0, none⟩ = some (.int .i64 X15) ∧ w'.cell? ⟨p15, 1, none⟩ = some (.int .i64 Y15)) ((refine keep4 ?_ c0 c1 c150 c151; (repeat (first | exact Bel.refl _ | assumption | refine Bel.step_alloc ?_ _ | refine Bel.step_drew ?_ | refine Bel.step_drewN ?_ _ | refine Bel.step_set ?_ (by simp <;> omega) _ | refine Bel.trans ?_ (by assumption))))) ((go_at_call 112; refine (mixed_any _ _ _ _ _ g0 g1 hX15 hY15).mono ?_; rintro e w2' ⟨z0, z1, rfl, hb2, k0, k1, -⟩; obtain ⟨hq2, hf2⟩ := hb2.cells))
                      all_goals
                        go_wp2_with fail
                        go_meet
                        case rel =>
                          have hB : Bel wc w2' := by (repeat (first | exact Bel.refl _ | assumption | refine Bel.step_alloc ?_ _ | refine Bel.step_drew ?_ | refine Bel.step_drewN ?_ _ | refine Bel.step_set ?_ (by simp <;> omega) _ | refine Bel.trans ?_ (by assumption)))
                          have hw := (hS.1.trans hB).size
                          have hw1 := hS.1.size
                          first
                            | (refine ((hS.later hB).later (Bel.step_alloc (Bel.refl _) _)).more ⟨w2'.heap.size, z0, z1, rfl, hw, ?_, ?_, ?_, ?_, k0, k1⟩ <;> (simp; done))
                            | exact (((hS.later hB).set (p := ⟨wc.heap.size, 0, none⟩) hw1 k0).set (p := ⟨wc.heap.size, 1, none⟩) hw1 k1).more (BoxW.stored hw1 ((hq2 _ _ (by simp)).trans (by simp; rfl)) ((hq2 _ _ (by simp)).trans (by simp; rfl)) ((hf2 _ _ (by simp)).trans (by simp)) ((hf2 _ _ (by simp)).trans (by simp)) k0 k1)
                    case rest =>
                      replace hS := hcut
                      clear hcut
                      go_upto_region 26 with fail
                      obtain ⟨x0, x1, x2, x3, x4, x5, x6, x7, ⟨g0, g1, g2, g3, g4, g5, g6, g7⟩, c0, c1, c2, c3, c4, c5, c6, c7⟩ := hS.2.1
                      obtain ⟨p17, X17, Y17, E17, hp17, c170, c171, f170, f171, hX17, hY17⟩ := hS.2.2 (u17) (by simp)
                      subst E17
                      go_region_held3 (fun w' => Bel wc w' ∧ w'.cell? ⟨p17, 0, none⟩ = some (.int .i64 X17) ∧ w'.cell? ⟨p17, 1, none⟩ = some (.int .i64 Y17) ∧ w'.cell? ⟨b2, 2, none⟩ = some (.int .i64 x2) ∧ w'.cell? ⟨b2, 3, none⟩ = some (.int .i64 x3) ∧ w'.cell? ⟨b2, 4, none⟩ = some (.int .i64 x4) ∧ w'.cell? ⟨b2, 5, none⟩ = some (.int .i64 x5) ∧ w'.cell? ⟨b2, 6, none⟩ = some (.int .i64 x6) ∧ w'.cell? ⟨b2, 7, none⟩ = some (.int .i64 x7)) ((refine keep8 ?_ c170 c171 c2 c3 c4 c5 c6 c7; (repeat (first | exact Bel.refl _ | assumption | refine Bel.step_alloc ?_ _ | refine Bel.step_drew ?_ | refine Bel.step_drewN ?_ _ | refine Bel.step_set ?_ (by simp <;> omega) _ | refine Bel.trans ?_ (by assumption))))) (fail)
                      all_goals
                        go_wp2_with fail
                        go_roundg (gk - 1)
                        case measure => omega
                        case rel => exact ⟨wc.heap.size, 4, q + 1, rfl, by go_num, by omega, hS.1.trans (by (repeat (first | exact Bel.refl _ | assumption | refine Bel.step_alloc ?_ _ | refine Bel.step_drew ?_ | refine Bel.step_drewN ?_ _ | refine Bel.step_set ?_ (by simp <;> omega) _ | refine Bel.trans ?_ (by assumption)))), ⟨_, _, _, _, _, _, _, _, ⟨hX17, hY17, g2, g3, g4, g5, g6, g7⟩, by simp, by simp, by simp, by simp, by simp, by simp, by simp, by simp⟩, fun v hv => (hS.2.2 v (by simp at hv; simp [hv])).later (by (repeat (first | exact Bel.refl _ | assumption | refine Bel.step_alloc ?_ _ | refine Bel.step_drew ?_ | refine Bel.step_drewN ?_ _ | refine Bel.step_set ?_ (by simp <;> omega) _ | refine Bel.trans ?_ (by assumption))))⟩
            · go_upto_region 27 with fail
              go_cut [18] (fun u18 wc => St w b' [.pointer (some ⟨w.heap.size, 0, none⟩), u18] wc)
              case first =>
                obtain ⟨x0, x1, x2, x3, x4, x5, x6, x7, ⟨g0, g1, g2, g3, g4, g5, g6, g7⟩, c0, c1, c2, c3, c4, c5, c6, c7⟩ := hS.2.1
                go_wp2_with fail
                refine (mixed_any _ _ _ _ _ g4 g5 ⟨by decide, by decide⟩ ⟨by decide, by decide⟩).mono ?_
                rintro e w2' ⟨z0, z1, rfl, hb2, k0, k1, -⟩
                go_wp2_with fail
                go_meet
                case rel =>
                  have hB : Bel wr w2' := by (repeat (first | exact Bel.refl _ | assumption | refine Bel.step_alloc ?_ _ | refine Bel.step_drew ?_ | refine Bel.step_drewN ?_ _ | refine Bel.step_set ?_ (by simp <;> omega) _ | refine Bel.trans ?_ (by assumption)))
                  exact ((hS.later hB).later (Bel.step_alloc (Bel.refl _) _)).more ⟨w2'.heap.size, z0, z1, rfl, (hS.1.trans hB).size, by simp, by simp, by simp, by simp, k0, k1⟩
              case rest =>
                replace hS := hcut
                clear hcut
                go_upto_region 28 with fail
                go_cut [8] (fun v8 wc => ∃ b2 capb2 : Nat, v8 = .slice (some ⟨b2, 0, none⟩) 4 capb2 ∧ St w b2 [.pointer (some ⟨w.heap.size, 0, none⟩), u18] wc)
                case first =>
                  obtain ⟨x0, x1, x2, x3, x4, x5, x6, x7, ⟨g0, g1, g2, g3, g4, g5, g6, g7⟩, c0, c1, c2, c3, c4, c5, c6, c7⟩ := hS.2.1
                  obtain ⟨p18, X18, Y18, E18, hp18, c180, c181, f180, f181, hX18, hY18⟩ := hS.2.2 (u18) (by simp)
                  subst E18
                  go_region_held3 (fun w' => Bel wc w' ∧ w'.cell? ⟨b', 0, none⟩ = some (.int .i64 x0) ∧ w'.cell? ⟨b', 1, none⟩ = some (.int .i64 x1) ∧ w'.cell? ⟨b', 2, none⟩ = some (.int .i64 x2) ∧ w'.cell? ⟨b', 3, none⟩ = some (.int .i64 x3) ∧ w'.cell? ⟨p18, 0, none⟩ = some (.int .i64 X18) ∧ w'.cell? ⟨p18, 1, none⟩ = some (.int .i64 Y18) ∧ w'.cell? ⟨b', 6, none⟩ = some (.int .i64 x6) ∧ w'.cell? ⟨b', 7, none⟩ = some (.int .i64 x7)) ((refine keep8 ?_ c0 c1 c2 c3 c180 c181 c6 c7; (repeat (first | exact Bel.refl _ | assumption | refine Bel.step_alloc ?_ _ | refine Bel.step_drew ?_ | refine Bel.step_drewN ?_ _ | refine Bel.step_set ?_ (by simp <;> omega) _ | refine Bel.trans ?_ (by assumption))))) ((go_at_call 113; refine (round_any _ _ _ _ (by decide) (by decide) ⟨_, _, _, _, _, _, _, _, ⟨g0, g1, g2, g3, hX18, hY18, g6, g7⟩, by simp, by simp, by simp, by simp, by simp, by simp, by simp, by simp⟩).mono ?_; rintro e w2' ⟨b2, capb2, rfl, hb2, hF2⟩))
                  all_goals
                    go_wp2_with fail
                    go_meet
                    case rel =>
                      have hB : Bel wc w2' := by (repeat (first | exact Bel.refl _ | assumption | refine Bel.step_alloc ?_ _ | refine Bel.step_drew ?_ | refine Bel.step_drewN ?_ _ | refine Bel.step_set ?_ (by simp <;> omega) _ | refine Bel.trans ?_ (by assumption)))
                      exact ⟨b2, capb2, rfl, (hS.later hB).1, hF2, (hS.later hB).2.2⟩
                case rest =>
                  obtain ⟨b2, capb2, rfl, hS'⟩ := hcut
                  replace hS := hS'
                  clear hS'
                  go_upto_region 29 with fail
                  go_cut [19] (fun u19 wc => St w b2 [.pointer (some ⟨w.heap.size, 0, none⟩), u18, u19] wc)
                  case first =>
                    obtain ⟨x0, x1, x2, x3, x4, x5, x6, x7, ⟨g0, g1, g2, g3, g4, g5, g6, g7⟩, c0, c1, c2, c3, c4, c5, c6, c7⟩ := hS.2.1
                    go_region_held3 (fun w' => Bel wc w' ∧ w'.cell? ⟨b2, 0, none⟩ = some (.int .i64 x0) ∧ w'.cell? ⟨b2, 1, none⟩ = some (.int .i64 x1) ∧ w'.cell? ⟨b2, 2, none⟩ = some (.int .i64 x2) ∧ w'.cell? ⟨b2, 3, none⟩ = some (.int .i64 x3)) ((refine keep4 ?_ c0 c1 c2 c3; (repeat (first | exact Bel.refl _ | assumption | refine Bel.step_alloc ?_ _ | refine Bel.step_drew ?_ | refine Bel.step_drewN ?_ _ | refine Bel.step_set ?_ (by simp <;> omega) _ | refine Bel.trans ?_ (by assumption))))) ((go_at_call 112; refine (mixed_any _ _ _ _ _ g0 g1 g2 g3).mono ?_; rintro e w2' ⟨z0, z1, rfl, hb2, k0, k1, -⟩; obtain ⟨hq2, hf2⟩ := hb2.cells))
                    all_goals
                      go_wp2_with fail
                      go_meet
                      case rel =>
                        have hB : Bel wc w2' := by (repeat (first | exact Bel.refl _ | assumption | refine Bel.step_alloc ?_ _ | refine Bel.step_drew ?_ | refine Bel.step_drewN ?_ _ | refine Bel.step_set ?_ (by simp <;> omega) _ | refine Bel.trans ?_ (by assumption)))
                        have hw := (hS.1.trans hB).size
                        have hw1 := hS.1.size
                        first
                          | (refine ((hS.later hB).later (Bel.step_alloc (Bel.refl _) _)).more ⟨w2'.heap.size, z0, z1, rfl, hw, ?_, ?_, ?_, ?_, k0, k1⟩ <;> (simp; done))
                          | exact (((hS.later hB).set (p := ⟨wc.heap.size, 0, none⟩) hw1 k0).set (p := ⟨wc.heap.size, 1, none⟩) hw1 k1).more (BoxW.stored hw1 ((hq2 _ _ (by simp)).trans (by simp; rfl)) ((hq2 _ _ (by simp)).trans (by simp; rfl)) ((hf2 _ _ (by simp)).trans (by simp)) ((hf2 _ _ (by simp)).trans (by simp)) k0 k1)
                  case rest =>
                    replace hS := hcut
                    clear hcut
                    go_upto_region 30 with fail
                    go_cut [20] (fun u20 wc => St w b2 [.pointer (some ⟨w.heap.size, 0, none⟩), u18, u19, u20] wc)
                    case first =>
                      obtain ⟨x0, x1, x2, x3, x4, x5, x6, x7, ⟨g0, g1, g2, g3, g4, g5, g6, g7⟩, c0, c1, c2, c3, c4, c5, c6, c7⟩ := hS.2.1
                      go_region_held3 (fun w' => Bel wc w' ∧ w'.cell? ⟨b2, 4, none⟩ = some (.int .i64 x4) ∧ w'.cell? ⟨b2, 5, none⟩ = some (.int .i64 x5) ∧ w'.cell? ⟨b2, 6, none⟩ = some (.int .i64 x6) ∧ w'.cell? ⟨b2, 7, none⟩ = some (.int .i64 x7)) ((refine keep4 ?_ c4 c5 c6 c7; (repeat (first | exact Bel.refl _ | assumption | refine Bel.step_alloc ?_ _ | refine Bel.step_drew ?_ | refine Bel.step_drewN ?_ _ | refine Bel.step_set ?_ (by simp <;> omega) _ | refine Bel.trans ?_ (by assumption))))) ((go_at_call 112; refine (mixed_any _ _ _ _ _ g4 g5 g6 g7).mono ?_; rintro e w2' ⟨z0, z1, rfl, hb2, k0, k1, -⟩; obtain ⟨hq2, hf2⟩ := hb2.cells))
                      all_goals
                        go_wp2_with fail
                        go_meet
                        case rel =>
                          have hB : Bel wc w2' := by (repeat (first | exact Bel.refl _ | assumption | refine Bel.step_alloc ?_ _ | refine Bel.step_drew ?_ | refine Bel.step_drewN ?_ _ | refine Bel.step_set ?_ (by simp <;> omega) _ | refine Bel.trans ?_ (by assumption)))
                          have hw := (hS.1.trans hB).size
                          have hw1 := hS.1.size
                          first
                            | (refine ((hS.later hB).later (Bel.step_alloc (Bel.refl _) _)).more ⟨w2'.heap.size, z0, z1, rfl, hw, ?_, ?_, ?_, ?_, k0, k1⟩ <;> (simp; done))
                            | exact (((hS.later hB).set (p := ⟨wc.heap.size, 0, none⟩) hw1 k0).set (p := ⟨wc.heap.size, 1, none⟩) hw1 k1).more (BoxW.stored hw1 ((hq2 _ _ (by simp)).trans (by simp; rfl)) ((hq2 _ _ (by simp)).trans (by simp; rfl)) ((hf2 _ _ (by simp)).trans (by simp)) ((hf2 _ _ (by simp)).trans (by simp)) k0 k1)
                    case rest =>
                      replace hS := hcut
                      clear hcut
                      obtain ⟨p19, X19, Y19, E19, hp19, c190, c191, f190, f191, hX19, hY19⟩ := hS.2.2 (u19) (by simp)
                      subst E19
                      obtain ⟨p20, X20, Y20, E20, hp20, c200, c201, f200, f201, hX20, hY20⟩ := hS.2.2 (u20) (by simp)
                      subst E20
                      obtain ⟨p4, X4, Y4, E4, hp4, c40, c41, f40, f41, hX4, hY4⟩ := hS.2.2 (.pointer (some ⟨w.heap.size, 0, none⟩)) (by simp)
                      simp only [Value.pointer.injEq, Option.some.injEq, Addr.mk.injEq, and_true] at E4
                      subst E4
                      go_wp2_with fail
                      refine (mixed_any _ _ _ _ _ hX19 hY19 hX20 hY20).mono ?_
                      rintro e w3 ⟨z0, z1, rfl, hb3, k0, k1, -⟩
                      have d40 := hb3.cell c40
                      have d41 := hb3.cell c41
                      have e40 := hb3.frozen c40 f40
                      have e41 := hb3.frozen c41 f41
                      have hB := hS.1.trans hb3
                      go_wp2
                      exact bodyPost_ret (v := .agg #[.int .i64 z0, .int .i64 z1]) (by simp [results, Tryz.results93, go_sem, d40, d41]) rfl ⟨_, _, rfl, (hB.step_set (p := ⟨w.heap.size, 0, none⟩) (Nat.le_refl _) _).step_set (p := ⟨w.heap.size, 1, none⟩) (Nat.le_refl _) _, k0, k1, trivial⟩
        · have h7' : ((s.size : Int) % 8 != 7) = true := by rw [bne_iff_ne]; omega
          go_wp2_with fail
          go_roundg (7 - (s.size + 1) % 8)
          case measure => omega
          case rel => exact ⟨rfl, _, rfl, by simp; rfl, by rw [ByteArray.size_append]; exact pad_step hr h7 HZ.out⟩

end Go.Proofs.YtgfildmmcbjpnabGreat
