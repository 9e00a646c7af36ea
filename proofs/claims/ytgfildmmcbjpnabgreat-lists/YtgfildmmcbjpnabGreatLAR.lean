import Derived.Test.YtgfildmmcbjpnabGreatLAP
import Derived.Test.YtgfildmmcbjpnabGreatLAQ
namespace Go.Proofs.YtgfildmmcbjpnabGreat
open Go.RowKit

/-- texts in a row of their own, each any -/
def StrsAt (w : World) (v : Value) (n : Nat) : Prop := (v = .slice none 0 0 ∧ n = 0) ∨ ∃ g cap, v = .slice (some ⟨g, 0, none⟩) n cap ∧ g < w.heap.size ∧ ∀ j, j < n → ∃ s : ByteArray, w.cell? ⟨g, j, none⟩ = some (.string s) ∧ w.frozen? ⟨g, j, none⟩ = false ∧ s.size ≤ 48
theorem StrsAt.later {a w : World} {v : Value} {n : Nat} (h : StrsAt a v n) (k : Bel a w) : StrsAt w v n := by
  rcases h with h | ⟨g, cap, hv, hg, hc⟩
  · exact Or.inl h
  · refine Or.inr ⟨g, cap, hv, Nat.lt_of_lt_of_le hg k.size, fun j hj => ?_⟩
    obtain ⟨s, h1, h2, h3⟩ := hc j hj
    exact ⟨s, k.cell h1, k.frozen h1 h2, h3⟩
/-- One that asks, in memory. -/
def PlaneAt (w : World) (p : Nat) (speaks : Int) (has : Value) (gen format : Int) (got : Value) (no : Bool) : Prop :=
  (w.cell? ⟨p, 0, none⟩ = some (.int .i64 speaks) ∧ w.cell? ⟨p, 1, none⟩ = some has ∧ w.cell? ⟨p, 2, none⟩ = some (.int .i64 gen) ∧ w.cell? ⟨p, 3, none⟩ = some (.int .i64 format) ∧ w.cell? ⟨p, 4, none⟩ = some got ∧ w.cell? ⟨p, 5, none⟩ = some (.bool no)) ∧
  ∀ j, w.frozen? ⟨p, j, none⟩ = false
theorem PlaneAt.later {a w : World} {p : Nat} {speaks : Int} {has : Value} {gen format : Int} {got : Value} {no : Bool} (h : PlaneAt a p speaks has gen format got no) (k : Bel a w) : PlaneAt w p speaks has gen format got no := by
  obtain ⟨⟨h0, h1, h2, h3, h4, h5⟩, hf⟩ := h
  refine ⟨⟨k.cell h0, k.cell h1, k.cell h2, k.cell h3, k.cell h4, k.cell h5⟩, fun j => ?_⟩
  rw [k.below.frozen (p := ⟨p, j, none⟩) (World.block_lt_of_cell? a ⟨p, 0, none⟩ h0)]
  exact hf j
/-- what is held: nothing, or a generation that can be -/
def HasAt (w : World) (v : Value) (gen : Int) : Prop := (v = .pointer none ∧ gen = 0) ∨ ∃ (q : Nat) (c : Cfg) (B : List BK) (E : List EN), v = .pointer (some ⟨q, 0, none⟩) ∧ StateAt w q c gen B E ∧ StateOK c gen B E ∧ ∀ x ∈ E, W32 x.2.1 ∧ W32 x.2.2
theorem HasAt.later {a w : World} {v : Value} {gen : Int} (h : HasAt a v gen) (k : Bel a w) : HasAt w v gen := by
  rcases h with h | ⟨q, c, B, E, hv, hs, ho⟩
  · exact Or.inl h
  · exact Or.inr ⟨q, c, B, E, hv, hs.later k, ho⟩
theorem HasAt.i64 {w : World} {v : Value} {gen : Int} (h : HasAt w v gen) : I64 gen := by
  rcases h with ⟨_, rfl⟩ | ⟨q, c, B, E, hv, hs, ho, _⟩
  · exact ⟨by decide, by decide⟩
  · exact ho.2.1

set_option maxRecDepth 100000 in
set_option maxHeartbeats 400000 in
theorem pgen_any (p : Nat) (speaks : Int) (has : Value) (hg gen format : Int) (got : Value) (no : Bool) (w : World) (h : PlaneAt w p speaks has gen format got no) (hh : HasAt w has hg) :
    Calls Tryz.prog 69 #[.pointer (some ⟨p, 0, none⟩)] w fun e w' => e = .returned (.int .i64 hg) ∧ w = w' := by
  obtain ⟨⟨h0, h1, h2, h3, h4, h5⟩, hf⟩ := h
  rcases hh with ⟨rfl, rfl⟩ | ⟨q, c, B, E, rfl, ⟨vB, vE, _, c6, _⟩, _⟩
  · go_enter Tryz.func69, Tryz.ntmps69
    go_wp2
    go_ret
    exact ⟨rfl, rfl⟩
  · go_enter Tryz.func69, Tryz.ntmps69
    go_wp2
    go_ret
    exact ⟨rfl, rfl⟩

theorem digits41412 : Digits ⟨#[52, 49, 52, 49, 50]⟩ := digits_of [52, 49, 52, 49, 50] (by decide)
theorem I64.five {a b c d e : Int} (ha : I64 a) (hb : I64 b) (hc : I64 c) (hd : I64 d) (he : I64 e) : ∀ t, I64 ([a, b, c, d, e].getD t 0) := by
  intro t
  match t with
  | 0 => exact ha
  | 1 => exact hb
  | 2 => exact hc
  | 3 => exact hd
  | 4 => exact he
  | _ + 5 => exact (show I64 0 from ⟨by decide, by decide⟩)

set_option maxRecDepth 100000 in
set_option maxHeartbeats 1600000 in
theorem asks_any (p : Nat) (speaks : Int) (has : Value) (hg gen format : Int) (got : Value) (ng : Nat) (no : Bool) (w : World) (h : PlaneAt w p speaks has gen format got no) (hh : HasAt w has hg) (hs : I64 speaks) (hge : I64 gen) (hfo : I64 format) (hgot : StrsAt w got ng) (hng : ng ≤ 65535) :
    Calls Tryz.prog 64 #[.pointer (some ⟨p, 0, none⟩)] w (RStr w Any) := by
  have h0' := h
  obtain ⟨⟨h0, h1, h2, h3, h4, h5⟩, hf⟩ := h
  obtain ⟨ao, cap, rfl, hc⟩ : ∃ ao cap, got = .slice ao ng cap ∧ ∀ j, j < ng → ∃ g s, ao = some ⟨g, 0, none⟩ ∧ w.cell? ⟨g, j, none⟩ = some (.string s) := by
    rcases hgot with ⟨rfl, rfl⟩ | ⟨g, cap, rfl, _, hc⟩
    · exact ⟨_, _, rfl, fun j hj => by omega⟩
    · exact ⟨_, _, rfl, fun j hj => by obtain ⟨s, h1, _⟩ := hc j hj; exact ⟨g, s, rfl, h1⟩⟩
  go_enter Tryz.func64, Tryz.ntmps64
  go_wp2
  go_loopg [3, 4] ng (fun r k i wr => w = wr ∧ ∃ (m : Nat) (j : Nat), m ≤ 65535 ∧ j ≤ ng ∧ r = j ∧ k = .int .i64 m ∧ i = .int .i64 ((j : Int) - 1))
  case atStart => exact ⟨rfl, ng, ng, hng, by omega, rfl, rfl, rfl⟩
  case round =>
    obtain ⟨rfl, m, j, hm, hj, hr, rfl, rfl⟩ := hrel
    by_cases hlt : 0 < j
    · obtain ⟨i, rfl⟩ : ∃ i, j = i + 1 := ⟨j - 1, by omega⟩
      obtain ⟨g, s, rfl, hcell⟩ := hc i (by omega)
      have he : (((i + 1 : Nat) : Int) - 1) = (i : Int) := by omega
      rw [he]
      clear he hc
      cases hse : s.toList.isEmpty
      all_goals
        go_wp2_with fail
        go_roundg i
        case measure => omega
        case rel => first | exact ⟨rfl, m, i, hm, by omega, rfl, rfl, rfl⟩ | exact ⟨rfl, i, i, by omega, by omega, rfl, rfl, rfl⟩
    · have : j = 0 := by omega
      subst this
      go_wp2_with fail
      refine (pgen_any p speaks has hg gen format _ no _ h0' hh).mono ?_
      rintro e w2 ⟨rfl, rfl⟩
      have hgi := hh.i64
      by_cases hgen : 0 < gen
      · go_upto_region 11 with fail
        go_cut [7] (fun v7 wc => ∃ z : ByteArray, v7 = .string z ∧ z.size ≤ 45 ∧ Bel w wc)
        case first =>
          go_region_held3 (fun w' => Bel w w' ∧ w'.cell? ⟨p, 0, none⟩ = some (.int .i64 speaks) ∧ w'.cell? ⟨p, 2, none⟩ = some (.int .i64 gen)) ((refine keep2 ?_ h0 h2; (repeat (first | exact Bel.refl _ | assumption | refine Bel.step_alloc ?_ _ | refine Bel.step_drew ?_ | refine Bel.step_drewN ?_ _ | refine Bel.step_set ?_ (by simp <;> omega) _ | refine Bel.trans ?_ (by assumption))))) ((go_at_call 62; refine (fields_any _ 5 _ _ [hg, speaks, gen, format, m] _ rfl (by decide) digits41412 (by intro t ht; match t, ht with | 0, _ => simp | 1, _ => simp | 2, _ => simp | 3, _ => simp | 4, _ => simp) (I64.five hgi hs hge hfo ⟨by omega, by omega⟩)).mono ?_; rintro e w4 ⟨z, rfl, hb4, hz⟩))
          all_goals
            go_wp2_with fail
            go_meet
            case rel => exact ⟨z, rfl, by omega, by (repeat (first | exact Bel.refl _ | assumption | refine Bel.step_alloc ?_ _ | refine Bel.step_drew ?_ | refine Bel.step_drewN ?_ _ | refine Bel.step_set ?_ (by simp <;> omega) _ | refine Bel.trans ?_ (by assumption)))⟩
        case rest =>
          obtain ⟨z, rfl, hz, hb⟩ := hcut
          go_wp2_with fail
          refine (sealed_any _ _ (by rw [ByteArray.size_append, show (({ data := #[81] } : ByteArray)).size = 1 from rfl]; omega)).mono ?_
          rintro e w5 ⟨t, rfl, hb5, -⟩
          go_wp2
          go_ret
          exact ⟨_, rfl, by (repeat (first | exact Bel.refl _ | assumption | refine Bel.step_alloc ?_ _ | refine Bel.step_drew ?_ | refine Bel.step_drewN ?_ _ | refine Bel.step_set ?_ (by simp <;> omega) _ | refine Bel.trans ?_ (by assumption))), trivial⟩
      · go_upto_region 11 with fail
        go_cut [7] (fun v7 wc => ∃ z : ByteArray, v7 = .string z ∧ z.size ≤ 45 ∧ Bel w wc)
        case first =>
          go_region_held3 (fun w' => Bel w w' ∧ w'.cell? ⟨p, 0, none⟩ = some (.int .i64 speaks) ∧ w'.cell? ⟨p, 2, none⟩ = some (.int .i64 gen)) ((refine keep2 ?_ h0 h2; (repeat (first | exact Bel.refl _ | assumption | refine Bel.step_alloc ?_ _ | refine Bel.step_drew ?_ | refine Bel.step_drewN ?_ _ | refine Bel.step_set ?_ (by simp <;> omega) _ | refine Bel.trans ?_ (by assumption))))) ((go_at_call 62; refine (fields_any _ 5 _ _ [hg, speaks, gen, 0, m] _ rfl (by decide) digits41412 (by intro t ht; match t, ht with | 0, _ => simp | 1, _ => simp | 2, _ => simp | 3, _ => simp | 4, _ => simp) (I64.five hgi hs hge ⟨by decide, by decide⟩ ⟨by omega, by omega⟩)).mono ?_; rintro e w4 ⟨z, rfl, hb4, hz⟩))
          all_goals
            go_wp2_with fail
            go_meet
            case rel => exact ⟨z, rfl, by omega, by (repeat (first | exact Bel.refl _ | assumption | refine Bel.step_alloc ?_ _ | refine Bel.step_drew ?_ | refine Bel.step_drewN ?_ _ | refine Bel.step_set ?_ (by simp <;> omega) _ | refine Bel.trans ?_ (by assumption)))⟩
        case rest =>
          obtain ⟨z, rfl, hz, hb⟩ := hcut
          go_wp2_with fail
          refine (sealed_any _ _ (by rw [ByteArray.size_append, show (({ data := #[81] } : ByteArray)).size = 1 from rfl]; omega)).mono ?_
          rintro e w5 ⟨t, rfl, hb5, -⟩
          go_wp2
          go_ret
          exact ⟨_, rfl, by (repeat (first | exact Bel.refl _ | assumption | refine Bel.step_alloc ?_ _ | refine Bel.step_drew ?_ | refine Bel.step_drewN ?_ _ | refine Bel.step_set ?_ (by simp <;> omega) _ | refine Bel.trans ?_ (by assumption))), trivial⟩

end Go.Proofs.YtgfildmmcbjpnabGreat

namespace Go.Proofs.YtgfildmmcbjpnabGreat
open Go.RowKit

theorem Tryz.infoBKS : (Tryz.prog.info? 56).map (fun i => (i.zero, i.size, i.bytes)) = some (some (.agg #[.string ByteArray.empty, .int .i64 0]), 2, 24) := by kernel_rfl
theorem owns_but {w w' : World} {p base : Nat} {e : TypeId} {size : Nat} {v : Value} {n : Nat} {xs : List Value} (h : w.ownsRow base e size v n xs) (k : ButP p w w') (hp : p < base) : w'.ownsRow base e size v n xs := by
  obtain ⟨h1, h2⟩ := h
  refine ⟨h1, ?_⟩
  rcases h2 with h2 | ⟨g, cap, cur, hv, hg, hh, r⟩
  · exact Or.inl h2
  · exact Or.inr ⟨g, cap, cur, hv, hg, by rw [k.block g (Array.getElem?_eq_some_iff.1 hh).1 (by omega)]; exact hh, r⟩
theorem pcellsS_snoc (l : List BK) (b : BK) : pcells (l ++ [b]) = pcells l ++ [.string b.1, .int .i64 b.2] := by simp [pcells]
theorem ButP.grown {p : Nat} {a w w' : World} {row : Option Nat} (h : ButP p a w) (hg : w.grownBy w' row) (hr : ∀ k, row = some k → a.heap.size ≤ k) : ButP p a w' :=
  ⟨hg.os.trans h.os, hg.tape.trans h.tape, hg.output.trans h.output, Nat.le_trans h.size hg.size, fun i hi hp => (hg.block i (Nat.lt_of_lt_of_le hi h.size) (fun e => by have := hr i e.symm; omega)).trans (h.block i hi hp)⟩
theorem ButP.text {p : Nat} (a : World) {w w' : World} {row : Option Nat} {s : ByteArray} {sh : Bool} (ht : TextAt w p s sh) (hg : w.grownBy w' row) (hr : ∀ k, row = some k → a.heap.size ≤ k) (hp : p < a.heap.size) : TextAt w' p s sh := by
  have hne : some p ≠ row := fun e => by have := hr p e.symm; omega
  have hb := hg.block p (World.block_lt_of_cell? w ⟨p, 0, none⟩ ht.1) hne
  exact ⟨(World.cell?_of_block (a := ⟨p, 0, none⟩) hb).trans ht.1, (World.cell?_of_block (a := ⟨p, 1, none⟩) hb).trans ht.2.1, (World.frozen?_of_block (a := ⟨p, 0, none⟩) hb).trans ht.2.2.1, (World.frozen?_of_block (a := ⟨p, 1, none⟩) hb).trans ht.2.2.2⟩
def GoodB (b : BK) : Prop := 1 ≤ b.1.size ∧ b.1.size ≤ 8 ∧ 0 ≤ b.2 ∧ b.2 ≤ 6
def RTPool (w : World) (p : Nat) (s0 : ByteArray) (e : Ending) (w' : World) : Prop := ∃ (v : Value) (L : List BK) (okb : Bool) (s : ByteArray) (sh : Bool), e = .returned (.tuple #[v, .bool okb]) ∧ ButP p w w' ∧ TextAt w' p s sh ∧ s.size ≤ s0.size ∧ PoolAt w' v L ∧ L.length ≤ 8 ∧ (∀ g, v.ownBlock = some g → w.heap.size ≤ g) ∧ (okb = true → sh = false ∧ PoolOK L)

set_option maxRecDepth 100000 in
set_option maxHeartbeats 1600000 in
theorem tpool_any (p : Nat) (s : ByteArray) (sh : Bool) (w : World) (hs : s.size ≤ maxLen) (ht : TextAt w p s sh) (hp : p < w.heap.size) :
    Calls Tryz.prog 79 #[.pointer (some ⟨p, 0, none⟩)] w (RTPool w p s) := by
  obtain ⟨i0, hi, hz0, hz1, hz2⟩ := info_parts Tryz.infoBKS
  go_enter Tryz.func79, Tryz.ntmps79
  go_wp2_with fail
  refine (tnumber_any p 1 s sh _ (by decide) (by decide) hs ht).mono ?_
  rintro e w1 ⟨v, s1, sh1, rfl, hb1, ht1, n, rfl, h1, h2, h3, h4⟩
  have h3' : n < 256 := by simpa using h3
  clear h3
  go_wp2
  go_loopg [4, 6, 7] n.toNat (fun g v ok i wr => ∃ (k : Nat) (L : List BK) (x : Bool) (s2 : ByteArray) (sh2 : Bool), g = n.toNat - k ∧ k ≤ n.toNat ∧ i = .int .i64 k ∧ ok = .bool x ∧ L.length = k ∧ wr.ownsRow w.heap.size 56 2 v k (pcells L) ∧ TextAt wr p s2 sh2 ∧ s2.size ≤ s.size ∧ ButP p w wr ∧ (k ≤ 8) ∧ (x = true → n ≤ 8) ∧ (x = true → sh2 = false → ∀ b ∈ L, GoodB b))
  case atStart => exact ⟨0, [], _, s1, sh1, by omega, by omega, rfl, rfl, rfl, World.ownsRow_nil _ _ _ _, ht1, h1, hb1, by omega, fun h => by simpa using h, fun _ _ b hb => by simp at hb⟩
  case round =>
    obtain ⟨k, L, x, s2, sh2, hg, hk, rfl, rfl, hL, hown, ht2, hs2, hb2, hk8, hx, hxx⟩ := hrel
    obtain ⟨d0, d1, e0, e1⟩ := ht2
    by_cases hgo : (k : Int) < n ∧ x = true ∧ sh2 = false
    · obtain ⟨hlt, rfl, rfl⟩ := hgo
      have hn8 : Hid (n ≤ 8) := hx rfl
      have hall := hxx rfl rfl
      clear hxx hx
      go_wp2_with fail
      refine (tnumber_any p 1 s2 false _ (by decide) (by decide) (by omega) ⟨d0, d1, e0, e1⟩).mono ?_
      rintro e w2 ⟨v2, s3, sh3, rfl, hb3, ht3, kk, rfl, k1, k2, k3, k4⟩
      have k3' : kk < 256 := by simpa using k3
      clear k3
      go_wp2_with fail
      refine (take_any p kk s3 sh3 _ k2 (by omega) (by omega) ht3).mono ?_
      rintro e w3 ⟨v3, s4, sh4, rfl, hb4, ht4, id, rfl, l1, l2, l3, l4⟩
      go_wp2_with fail
      refine (tnumber_any p 1 s4 sh4 _ (by decide) (by decide) (by omega) ht4).mono ?_
      rintro e w4 ⟨v4, s5, sh5, rfl, hb5, ht5, wt, rfl, m1, m2, m3, m4⟩
      have m3' : wt < 256 := by simpa using m3
      clear m3
      have hown4 := owns_but hown ((hb3.trans hb4).trans hb5) hp
      have hB := ((hb2.trans hb3).trans hb4).trans hb5
      clear hown hb2 hb3 hb4 hb5 ht4 ht3 d0 d1 e0 e1
      go_upto_region 10 with fail
      go_cut [6] (fun v6 wc => w4 = wc ∧ ∃ y, v6 = .bool y ∧ (y = true → 1 ≤ kk ∧ kk ≤ 8 ∧ wt ≤ 6))
      case first =>
        by_cases q1 : 0 < kk
        · by_cases q2 : kk < 9
          · by_cases q3 : wt < 7
            · by_cases q4 : k = 0
              · subst q4
                go_wp2_with fail
                go_meet
                case rel => exact ⟨rfl, _, rfl, fun _ => by omega⟩
              · obtain ⟨g, cap, cur, rfl, hgb, -, hkc, hkm, -, -⟩ : ∃ g cap cur, _ = Value.slice (some ⟨g, 0, none⟩) k cap ∧ w.heap.size ≤ g ∧ w4.heap[g]? = some (.cells cur 56 (0, 0)) ∧ k ≤ cap ∧ cap ≤ maxLen ∧ cur.size = cap * 2 ∧ cur.toList.take (k * 2) = pcells L := by
                  rcases hown4.2 with ⟨_, hh⟩ | hh
                  · exact absurd hh q4
                  · exact hh
                obtain ⟨j, rfl⟩ : ∃ j, k = j + 1 := ⟨k - 1, by omega⟩
                have hcell : w4.cell? ⟨g, j * 2, none⟩ = some (.string (L[j]'(by omega)).1) := by
                  have := (RowAt.of_owns hown4)
                  rcases this with ⟨h, _⟩ | ⟨g', cap', hv, _, _, hc⟩
                  · cases h
                  · simp only [Value.slice.injEq, Option.some.injEq, Addr.mk.injEq, and_true] at hv
                    rw [hv.1]
                    exact hc _ _ (pcells_get L j (by omega)).1
                generalize (L[j]'(by omega)).1 = idj at *
                go_wp2_with fail
                go_meet
                case rel => exact ⟨rfl, _, rfl, fun _ => by omega⟩
            · go_wp2_with fail
              go_meet
              case rel => exact ⟨rfl, _, rfl, fun h => by cases h⟩
          · go_wp2_with fail
            go_meet
            case rel => exact ⟨rfl, _, rfl, fun h => by cases h⟩
        · go_wp2_with fail
          go_meet
          case rel => exact ⟨rfl, _, rfl, fun h => by cases h⟩
      case rest =>
        obtain ⟨rfl, y, rfl, hy⟩ := hcut
        have hgood : y = true → sh5 = false → GoodB (id, wt) := fun h h5 => by
          obtain ⟨y1, y2, y3⟩ := hy h
          have hid := (l4 (m4 h5)).2
          exact ⟨by simp only; omega, by simp only; omega, m2, y3⟩
        go_wp2_with (first | (at_builtin; refine wpList_append_own _ rfl _ _ 45 rfl w.heap.size 56 i0 (.agg #[.string ByteArray.empty, .int .i64 0]) 2 24 Tryz.underlying45 hi hz0 hz1 hz2 rfl (by decide) _ k (pcells L) rfl ?o1 ⟨w4.heap.size, 0, none⟩ 1 1 [.string id, .int .i64 wt] rfl rfl ?c1 ?c2 ?c3 ?c4 ?c5 ?_))
        case o1 => exact hown4.alloc _
        case c1 => exact cell_two' _ _ _ _ _ rfl
        case c2 => intro u hu; simp at hu; rcases hu with rfl | rfl <;> rfl
        case c3 => unfold maxLen; omega
        case c4 => omega
        case c5 => have := hB.size; simp; omega
        intro v' w6 hown' hgrow _
        have hlt4 := fun g hg => (hown4.lt g hg).1
        have hB6 : ButP p w w6 := (hB.trans (ButP.of_bel (Bel.step_alloc (Bel.refl _) _))).grown hgrow hlt4
        have ht6 : TextAt w6 p s5 sh5 := ButP.text w (ht5.later (Bel.step_alloc (Bel.refl _) _)) hgrow hlt4 hp
        clear hgrow
        go_wp2_with fail
        go_roundg (n.toNat - (k + 1))
        case measure => omega
        case rel => exact ⟨k + 1, L ++ [(id, wt)], y, s5, sh5, rfl, by omega, by go_num, rfl, by simp [hL], by rw [pcellsS_snoc]; exact hown', ht6, by omega, hB6, by have := hn8.out; omega, fun _ => hn8.out, fun h h5 b hb => by rcases List.mem_append.1 hb with h1 | h1; exact hall b h1; (simp at h1; subst h1; exact hgood h h5)⟩
    · have hown' := RowAt.of_owns hown
      have hblk : Hid (∀ g, _ = some g → w.heap.size ≤ g) := fun g hg => (hown.lt g hg).1
      rw [← hL] at hown'
      have hpool : PoolAt wr _ L := hown'
      clear hown hown'
      clear hx
      have hfin : x = true → sh2 = false → PoolOK L := fun h1 h2 => ⟨by omega, fun b hb => hxx h1 h2 b hb⟩
      clear hxx
      by_cases hlt : (k : Int) < n
      · cases x
        · cases sh2
          all_goals
            go_wp2_with fail
            go_quiet (fail)
            go_wp2
            go_ret2
            exact ⟨_, L, _, s2, _, rfl, hb2.trans (ButP.of_bel (by (repeat (first | exact Bel.refl _ | assumption | refine Bel.step_alloc ?_ _ | refine Bel.step_drew ?_ | refine Bel.step_drewN ?_ _ | refine Bel.step_set ?_ (by simp <;> omega) _ | refine Bel.trans ?_ (by assumption))))), TextAt.later ⟨d0, d1, e0, e1⟩ (by (repeat (first | exact Bel.refl _ | assumption | refine Bel.step_alloc ?_ _ | refine Bel.step_drew ?_ | refine Bel.step_drewN ?_ _ | refine Bel.step_set ?_ (by simp <;> omega) _ | refine Bel.trans ?_ (by assumption)))), hs2, hpool.later (by (repeat (first | exact Bel.refl _ | assumption | refine Bel.step_alloc ?_ _ | refine Bel.step_drew ?_ | refine Bel.step_drewN ?_ _ | refine Bel.step_set ?_ (by simp <;> omega) _ | refine Bel.trans ?_ (by assumption)))), by omega, hblk.out, fun h => by cases h⟩
        · cases sh2
          · exact absurd ⟨hlt, rfl, rfl⟩ hgo
          · go_wp2_with fail
            go_quiet (fail)
            go_wp2
            go_ret2
            exact ⟨_, L, _, s2, _, rfl, hb2.trans (ButP.of_bel (by (repeat (first | exact Bel.refl _ | assumption | refine Bel.step_alloc ?_ _ | refine Bel.step_drew ?_ | refine Bel.step_drewN ?_ _ | refine Bel.step_set ?_ (by simp <;> omega) _ | refine Bel.trans ?_ (by assumption))))), TextAt.later ⟨d0, d1, e0, e1⟩ (by (repeat (first | exact Bel.refl _ | assumption | refine Bel.step_alloc ?_ _ | refine Bel.step_drew ?_ | refine Bel.step_drewN ?_ _ | refine Bel.step_set ?_ (by simp <;> omega) _ | refine Bel.trans ?_ (by assumption)))), hs2, hpool.later (by (repeat (first | exact Bel.refl _ | assumption | refine Bel.step_alloc ?_ _ | refine Bel.step_drew ?_ | refine Bel.step_drewN ?_ _ | refine Bel.step_set ?_ (by simp <;> omega) _ | refine Bel.trans ?_ (by assumption)))), by omega, hblk.out, fun h => by cases h⟩
      · clear hgo
        cases x
        · cases sh2
          all_goals
            go_wp2_with fail
            go_quiet (fail)
            go_wp2
            go_ret2
            exact ⟨_, L, _, s2, _, rfl, hb2.trans (ButP.of_bel (by (repeat (first | exact Bel.refl _ | assumption | refine Bel.step_alloc ?_ _ | refine Bel.step_drew ?_ | refine Bel.step_drewN ?_ _ | refine Bel.step_set ?_ (by simp <;> omega) _ | refine Bel.trans ?_ (by assumption))))), TextAt.later ⟨d0, d1, e0, e1⟩ (by (repeat (first | exact Bel.refl _ | assumption | refine Bel.step_alloc ?_ _ | refine Bel.step_drew ?_ | refine Bel.step_drewN ?_ _ | refine Bel.step_set ?_ (by simp <;> omega) _ | refine Bel.trans ?_ (by assumption)))), hs2, hpool.later (by (repeat (first | exact Bel.refl _ | assumption | refine Bel.step_alloc ?_ _ | refine Bel.step_drew ?_ | refine Bel.step_drewN ?_ _ | refine Bel.step_set ?_ (by simp <;> omega) _ | refine Bel.trans ?_ (by assumption)))), by omega, hblk.out, fun h => by cases h⟩
        · cases sh2
          · have HF : Hid (PoolOK L) := hfin rfl rfl
            clear hfin
            go_wp2_with fail
            go_quiet (fail)
            go_wp2
            go_ret2
            exact ⟨_, L, _, s2, _, rfl, hb2.trans (ButP.of_bel (by (repeat (first | exact Bel.refl _ | assumption | refine Bel.step_alloc ?_ _ | refine Bel.step_drew ?_ | refine Bel.step_drewN ?_ _ | refine Bel.step_set ?_ (by simp <;> omega) _ | refine Bel.trans ?_ (by assumption))))), TextAt.later ⟨d0, d1, e0, e1⟩ (by (repeat (first | exact Bel.refl _ | assumption | refine Bel.step_alloc ?_ _ | refine Bel.step_drew ?_ | refine Bel.step_drewN ?_ _ | refine Bel.step_set ?_ (by simp <;> omega) _ | refine Bel.trans ?_ (by assumption)))), hs2, hpool.later (by (repeat (first | exact Bel.refl _ | assumption | refine Bel.step_alloc ?_ _ | refine Bel.step_drew ?_ | refine Bel.step_drewN ?_ _ | refine Bel.step_set ?_ (by simp <;> omega) _ | refine Bel.trans ?_ (by assumption)))), by omega, hblk.out, fun _ => ⟨rfl, HF.out⟩⟩
          · go_wp2_with fail
            go_quiet (fail)
            go_wp2
            go_ret2
            exact ⟨_, L, _, s2, _, rfl, hb2.trans (ButP.of_bel (by (repeat (first | exact Bel.refl _ | assumption | refine Bel.step_alloc ?_ _ | refine Bel.step_drew ?_ | refine Bel.step_drewN ?_ _ | refine Bel.step_set ?_ (by simp <;> omega) _ | refine Bel.trans ?_ (by assumption))))), TextAt.later ⟨d0, d1, e0, e1⟩ (by (repeat (first | exact Bel.refl _ | assumption | refine Bel.step_alloc ?_ _ | refine Bel.step_drew ?_ | refine Bel.step_drewN ?_ _ | refine Bel.step_set ?_ (by simp <;> omega) _ | refine Bel.trans ?_ (by assumption)))), hs2, hpool.later (by (repeat (first | exact Bel.refl _ | assumption | refine Bel.step_alloc ?_ _ | refine Bel.step_drew ?_ | refine Bel.step_drewN ?_ _ | refine Bel.step_set ?_ (by simp <;> omega) _ | refine Bel.trans ?_ (by assumption)))), by omega, hblk.out, fun h => by cases h⟩

end Go.Proofs.YtgfildmmcbjpnabGreat

namespace Go.Proofs.YtgfildmmcbjpnabGreat
open Go.RowKit

theorem Tryz.infoEN : (Tryz.prog.info? 131).map (fun i => (i.zero, i.size, i.bytes)) = some (some (.agg #[.string ByteArray.empty, .int .i64 0, .int .i64 0]), 3, 32) := by kernel_rfl
theorem ecells_snoc (l : List EN) (b : EN) : ecells (l ++ [b]) = ecells l ++ [.string b.1, .int .i64 b.2.1, .int .i64 b.2.2] := by simp [ecells]
/-- an entry whose owner is of the pool -/
def GoodE (B : List BK) (e : EN) : Prop := (∃ b ∈ B, b.1 = e.1) ∧ W32 e.2.1 ∧ W32 e.2.2
def RTEnts (w : World) (p : Nat) (s0 : ByteArray) (B : List BK) (n : Nat) (e : Ending) (w' : World) : Prop := ∃ (v : Value) (L : List EN) (okb : Bool) (s : ByteArray) (sh : Bool), e = .returned (.tuple #[v, .bool okb]) ∧ ButP p w w' ∧ TextAt w' p s sh ∧ s.size ≤ s0.size ∧ EntsNew w.heap.size w' v L ∧ L.length ≤ n ∧ (∀ x ∈ L, GoodE B x)
theorem cell_three' (w : World) (a b c : Value) (t : TypeId) (n : Nat) (hn : n = w.heap.size) : ∀ j u, [a, b, c][j]? = some u → (w.alloc (.cells #[a, b, c] t)).cell? ((⟨n, 0, none⟩ : Addr).add j) = some u := by
  subst hn
  intro j u hu
  match j, hu with
  | 0, hu => simp at hu; subst hu; simp [Addr.add]
  | 1, hu => simp at hu; subst hu; simp [Addr.add]
  | 2, hu => simp at hu; subst hu; simp [Addr.add]

theorem W32_zero : W32 0 := ⟨by decide, by decide⟩
theorem TextAt.other {w : World} {p q o : Nat} {s : ByteArray} {sh : Bool} {u : Value} (h : TextAt w p s sh) (hq : q ≠ p) : TextAt (w.setCell ⟨q, o, none⟩ u) p s sh :=
  ⟨by rw [set_other (Or.inl hq)]; exact h.1, by rw [set_other (Or.inl hq)]; exact h.2.1, by rw [frozen_set]; exact h.2.2.1, by rw [frozen_set]; exact h.2.2.2⟩

set_option maxRecDepth 100000 in
set_option maxHeartbeats 1600000 in
theorem plains_any (p : Nat) (n : Nat) (pb : Bool) (vB : Value) (B : List BK) (s : ByteArray) (sh : Bool) (w : World) (hs : s.size ≤ maxLen) (ht : TextAt w p s sh) (hp : p < w.heap.size) (hn : n ≤ 65535) (hB : PoolAt w vB B) (hB8 : B.length ≤ 8) (hBp : ∀ g, vB.ownBlock = some g → g ≠ p) :
    Calls Tryz.prog 81 #[.pointer (some ⟨p, 0, none⟩), .int .i64 n, .bool pb, vB] w (RTEnts w p s B n) := by
  obtain ⟨i0, hi, hz0, hz1, hz2⟩ := info_parts Tryz.infoEN
  obtain ⟨aoB, capB, rfl⟩ : ∃ ao cap, vB = .slice ao B.length cap := by
    rcases hB.form with ⟨rfl, rfl⟩ | ⟨g, cap, rfl, _⟩
    · exact ⟨_, _, rfl⟩
    · exact ⟨_, _, rfl⟩
  go_enter Tryz.func81, Tryz.ntmps81
  go_wp2
  go_loopg [10, 11] n (fun g v i wr => ∃ (k : Nat) (L : List EN) (s2 : ByteArray) (sh2 : Bool), g = n - k ∧ k ≤ n ∧ i = .int .i64 k ∧ L.length = k ∧ wr.ownsRow w.heap.size 131 3 v k (ecells L) ∧ TextAt wr p s2 sh2 ∧ s2.size ≤ s.size ∧ ButP p w wr ∧ ∀ x ∈ L, GoodE B x)
  case atStart => exact ⟨0, [], s, sh, by omega, by omega, rfl, rfl, World.ownsRow_nil _ _ _ _, ht, Nat.le_refl _, ButP.refl _ _, fun x hx => by simp at hx⟩
  case round =>
    obtain ⟨k, L, s2, sh2, hg, hk, rfl, hL, hown, ht2, hs2, hb2, hall⟩ := hrel
    have hpw : p < wr.heap.size := Nat.lt_of_lt_of_le hp hb2.size
    have hBw := hB.but hb2 hBp
    obtain ⟨d0, d1, e0, e1⟩ := ht2
    by_cases hgo : k < n ∧ sh2 = false
    · obtain ⟨hlt, rfl⟩ := hgo
      cases pb
      · go_wp2_with fail
        refine (tnumber_any p 2 s2 false _ (by decide) (by decide) (by omega) (TextAt.later ⟨d0, d1, e0, e1⟩ (by (repeat (first | exact Bel.refl _ | assumption | refine Bel.step_alloc ?_ _ | refine Bel.step_drew ?_ | refine Bel.step_drewN ?_ _ | refine Bel.step_set ?_ (by simp <;> omega) _ | refine Bel.trans ?_ (by assumption)))))).mono ?_
        rintro e w3 ⟨v2, s3, sh3, rfl, hb3, ht3, kk, rfl, k1, hk0, k3, k4⟩
        clear k3
        have hne : wr.heap.size ≠ p := by omega
        have ce0 : w3.cell? ⟨wr.heap.size, 0, none⟩ = some (.string ⟨#[]⟩) := hb3.cell (by simp) hne
        have ce1 : w3.cell? ⟨wr.heap.size, 1, none⟩ = some (.int .i64 0) := hb3.cell (by simp) hne
        have ce2 : w3.cell? ⟨wr.heap.size, 2, none⟩ = some (.int .i64 0) := hb3.cell (by simp) hne
        have fe0 : w3.frozen? ⟨wr.heap.size, 0, none⟩ = false := hb3.frozen (v := .string ⟨#[]⟩) (by simp) (by simp) hne
        have hbE : ButP p wr w3 := (ButP.of_bel (by (repeat (first | exact Bel.refl _ | assumption | refine Bel.step_alloc ?_ _ | refine Bel.step_drew ?_ | refine Bel.step_drewN ?_ _ | refine Bel.step_set ?_ (by simp <;> omega) _ | refine Bel.trans ?_ (by assumption))))).trans hb3
        have hBz := hBw.but hbE hBp
        have hownz := owns_but hown hbE (Nat.lt_of_lt_of_le hp (Nat.le_refl _))
        have hbz := hb2.trans hbE
        by_cases hkl : kk < (B.length : Int)
        · obtain ⟨m, rfl⟩ := Int.eq_ofNat_of_zero_le hk0
          have hkl' : m < B.length := by omega
          obtain ⟨g, hao, hgc⟩ : ∃ g, aoB = some ⟨g, 0, none⟩ ∧ w3.cell? ⟨g, m * 2, none⟩ = some (.string B[m].1) := by
            rcases hBz.form with ⟨_, rfl⟩ | ⟨g, cap, hv, _, _, hc⟩
            · simp at hkl'
            · simp only [Value.slice.injEq] at hv
              exact ⟨g, hv.1, (hc m hkl').1⟩
          subst hao
          have hmem : ∃ b ∈ B, b.1 = B[m].1 := ⟨B[m], List.getElem_mem hkl', rfl⟩
          generalize B[m].1 = idm at *
          have hB6 : ButP p wr (w3.setCell ⟨wr.heap.size, 0, none⟩ (.string idm)) := hbE.step_new (by simp) _
          go_wp2_with (first | (at_builtin; refine wpList_append_own _ rfl _ _ 82 rfl w.heap.size 131 i0 (.agg #[.string ByteArray.empty, .int .i64 0, .int .i64 0]) 3 32 Tryz.underlying82 hi hz0 hz1 hz2 rfl (by decide) _ k (ecells L) rfl ?o1 ⟨w3.heap.size, 0, none⟩ 1 1 [.string idm, .int .i64 0, .int .i64 0] rfl rfl ?c1 ?c2 ?c3 ?c4 ?c5 ?_))
          case o1 => exact (owns_but hown hB6 hp).alloc _
          case c1 => exact cell_three' _ _ _ _ _ _ (by simp)
          case c2 => intro u hu; simp at hu; rcases hu with rfl | rfl | rfl <;> rfl
          case c3 => unfold maxLen; omega
          case c4 => omega
          case c5 => have := hbz.size; simp; omega
          intro v' w6 hown' hgrow _
          have hlt4 := fun g hg => (hown.lt g hg).1
          have hb6 : ButP p w w6 := ((hb2.trans hB6).alloc _).grown hgrow hlt4
          have ht6 : TextAt w6 p s3 sh3 := ButP.text w (TextAt.later (TextAt.other ht3 (by omega)) (Bel.step_alloc (Bel.refl _) _)) hgrow hlt4 hp
          clear hgrow
          go_wp2_with fail
          go_roundg (n - (k + 1))
          case measure => omega
          case rel => exact ⟨k + 1, L ++ [(idm, 0, 0)], s3, sh3, rfl, by omega, by go_num, by simp [hL], by rw [ecells_snoc]; exact hown', ht6, by omega, hb6, fun x hx => by rcases List.mem_append.1 hx with h1 | h1; exact hall x h1; (simp at h1; subst h1; exact ⟨hmem, W32_zero, W32_zero⟩)⟩
        · go_wp2
          go_ret2
          exact ⟨_, [], _, s3, sh3, rfl, hbz, ht3, by omega, ⟨Or.inl ⟨rfl, rfl, rfl⟩, fun g hg => (by cases hg)⟩, by simp, fun x hx => by simp at hx⟩
      · go_wp2_with fail
        refine (tnumber_any p 4 s2 false _ (by decide) (by decide) (by omega) (TextAt.later ⟨d0, d1, e0, e1⟩ (by (repeat (first | exact Bel.refl _ | assumption | refine Bel.step_alloc ?_ _ | refine Bel.step_drew ?_ | refine Bel.step_drewN ?_ _ | refine Bel.step_set ?_ (by simp <;> omega) _ | refine Bel.trans ?_ (by assumption)))))).mono ?_
        rintro e w3 ⟨v3, s3, sh3, rfl, hb3, ht3, hi', rfl, k1, k2, k3, k4⟩
        have hhi : W32 hi' := ⟨k2, by simpa using k3⟩
        clear k2 k3
        go_wp2_with fail
        refine (tnumber_any p 4 s3 sh3 _ (by decide) (by decide) (by omega) ht3).mono ?_
        rintro e w4 ⟨v4, s4, sh4, rfl, hb4, ht4, lo', rfl, l1, l2, l3, l4⟩
        have hlo : W32 lo' := ⟨l2, by simpa using l3⟩
        clear l2 l3
        have hb34 := hb3.trans hb4
        have hne : wr.heap.size ≠ p := by omega
        have ce0 : w4.cell? ⟨wr.heap.size, 0, none⟩ = some (.string ⟨#[]⟩) := hb34.cell (by simp) hne
        have ce1 : w4.cell? ⟨wr.heap.size, 1, none⟩ = some (.int .i64 0) := hb34.cell (by simp) hne
        have ce2 : w4.cell? ⟨wr.heap.size, 2, none⟩ = some (.int .i64 0) := hb34.cell (by simp) hne
        have fe0 : w4.frozen? ⟨wr.heap.size, 0, none⟩ = false := hb34.frozen (v := .string ⟨#[]⟩) (by simp) (by simp) hne
        have fe1 : w4.frozen? ⟨wr.heap.size, 1, none⟩ = false := hb34.frozen (v := .int .i64 0) (by simp) (by simp) hne
        have fe2 : w4.frozen? ⟨wr.heap.size, 2, none⟩ = false := hb34.frozen (v := .int .i64 0) (by simp) (by simp) hne
        go_wp2_with fail
        refine (tnumber_any p 1 s4 sh4 _ (by decide) (by decide) (by omega) (TextAt.other (TextAt.other ht4 (by omega)) (by omega))).mono ?_
        rintro e w5 ⟨v5, s5, sh5, rfl, hb5, ht5, kk, rfl, m1, hk0, m3, m4⟩
        clear m3
        have hbA : ButP p wr ((w4.setCell ⟨wr.heap.size, 1, none⟩ (.int .i64 hi')).setCell ⟨wr.heap.size, 2, none⟩ (.int .i64 lo')) := (((ButP.of_bel (by (repeat (first | exact Bel.refl _ | assumption | refine Bel.step_alloc ?_ _ | refine Bel.step_drew ?_ | refine Bel.step_drewN ?_ _ | refine Bel.step_set ?_ (by simp <;> omega) _ | refine Bel.trans ?_ (by assumption))))).trans hb34).step_new (by simp) _).step_new (by simp) _
        have hbE : ButP p wr w5 := hbA.trans hb5
        have c0' : w5.cell? ⟨wr.heap.size, 0, none⟩ = some (.string ⟨#[]⟩) := hb5.cell (by rw [set_other (by simp), set_other (by simp)]; exact ce0) hne
        have c1' : w5.cell? ⟨wr.heap.size, 1, none⟩ = some (.int .i64 hi') := hb5.cell (by rw [set_other (by simp)]; exact set_same ce1) hne
        have c2' : w5.cell? ⟨wr.heap.size, 2, none⟩ = some (.int .i64 lo') := hb5.cell (set_same (v := .int .i64 0) (by rw [set_other (by simp)]; exact ce2)) hne
        have f0' : w5.frozen? ⟨wr.heap.size, 0, none⟩ = false := hb5.frozen (v := .string ⟨#[]⟩) (by rw [set_other (by simp), set_other (by simp)]; exact ce0) (by rw [frozen_set, frozen_set]; exact fe0) hne
        clear ce0 ce1 ce2 fe0 fe1 fe2
        have hBz := hBw.but hbE hBp
        have hownz := owns_but hown hbE (Nat.lt_of_lt_of_le hp (Nat.le_refl _))
        have hbz := hb2.trans hbE
        by_cases hkl : kk < (B.length : Int)
        · obtain ⟨m, rfl⟩ := Int.eq_ofNat_of_zero_le hk0
          have hkl' : m < B.length := by omega
          obtain ⟨g, hao, hgc⟩ : ∃ g, aoB = some ⟨g, 0, none⟩ ∧ w5.cell? ⟨g, m * 2, none⟩ = some (.string B[m].1) := by
            rcases hBz.form with ⟨_, rfl⟩ | ⟨g, cap, hv, _, _, hc⟩
            · simp at hkl'
            · simp only [Value.slice.injEq] at hv
              exact ⟨g, hv.1, (hc m hkl').1⟩
          subst hao
          have hmem : ∃ b ∈ B, b.1 = B[m].1 := ⟨B[m], List.getElem_mem hkl', rfl⟩
          generalize B[m].1 = idm at *
          have hB6 : ButP p wr (w5.setCell ⟨wr.heap.size, 0, none⟩ (.string idm)) := hbE.step_new (by simp) _
          go_wp2_with (first | (at_builtin; refine wpList_append_own _ rfl _ _ 82 rfl w.heap.size 131 i0 (.agg #[.string ByteArray.empty, .int .i64 0, .int .i64 0]) 3 32 Tryz.underlying82 hi hz0 hz1 hz2 rfl (by decide) _ k (ecells L) rfl ?o1 ⟨w5.heap.size, 0, none⟩ 1 1 [.string idm, .int .i64 hi', .int .i64 lo'] rfl rfl ?c1 ?c2 ?c3 ?c4 ?c5 ?_))
          case o1 => exact (owns_but hown hB6 hp).alloc _
          case c1 => exact cell_three' _ _ _ _ _ _ (by simp)
          case c2 => intro u hu; simp at hu; rcases hu with rfl | rfl | rfl <;> rfl
          case c3 => unfold maxLen; omega
          case c4 => omega
          case c5 => have := hbz.size; simp; omega
          intro v' w6 hown' hgrow _
          have hlt4 := fun g hg => (hown.lt g hg).1
          have hb6 : ButP p w w6 := ((hb2.trans hB6).alloc _).grown hgrow hlt4
          have ht6 : TextAt w6 p s5 sh5 := ButP.text w (TextAt.later (TextAt.other ht5 (by omega)) (Bel.step_alloc (Bel.refl _) _)) hgrow hlt4 hp
          clear hgrow
          go_wp2_with fail
          go_roundg (n - (k + 1))
          case measure => omega
          case rel => exact ⟨k + 1, L ++ [(idm, hi', lo')], s5, sh5, rfl, by omega, by go_num, by simp [hL], by rw [ecells_snoc]; exact hown', ht6, by omega, hb6, fun x hx => by rcases List.mem_append.1 hx with h1 | h1; exact hall x h1; (simp at h1; subst h1; exact ⟨hmem, hhi, hlo⟩)⟩
        · go_wp2
          go_ret2
          exact ⟨_, [], _, s5, sh5, rfl, hbz, ht5, by omega, ⟨Or.inl ⟨rfl, rfl, rfl⟩, fun g hg => (by cases hg)⟩, by simp, fun x hx => by simp at hx⟩
    · have hown' := RowAt.of_owns hown
      rw [← hL] at hown'
      have hents : EntsNew w.heap.size wr _ L := ⟨hown', fun g hg => (World.ownsRow.lt hown g hg).1⟩
      clear hown hown'
      by_cases hlt : k < n
      · cases sh2
        · exact absurd ⟨hlt, rfl⟩ hgo
        · go_wp2_with fail
          go_quiet (fail)
          go_wp2
          go_ret2
          exact ⟨_, L, _, s2, _, rfl, hb2.trans (ButP.of_bel (by (repeat (first | exact Bel.refl _ | assumption | refine Bel.step_alloc ?_ _ | refine Bel.step_drew ?_ | refine Bel.step_drewN ?_ _ | refine Bel.step_set ?_ (by simp <;> omega) _ | refine Bel.trans ?_ (by assumption))))), TextAt.later ⟨d0, d1, e0, e1⟩ (by (repeat (first | exact Bel.refl _ | assumption | refine Bel.step_alloc ?_ _ | refine Bel.step_drew ?_ | refine Bel.step_drewN ?_ _ | refine Bel.step_set ?_ (by simp <;> omega) _ | refine Bel.trans ?_ (by assumption)))), hs2, hents.later (by (repeat (first | exact Bel.refl _ | assumption | refine Bel.step_alloc ?_ _ | refine Bel.step_drew ?_ | refine Bel.step_drewN ?_ _ | refine Bel.step_set ?_ (by simp <;> omega) _ | refine Bel.trans ?_ (by assumption)))), by omega, hall⟩
      · cases sh2
        all_goals
          go_wp2_with fail
          go_quiet (fail)
          go_wp2
          go_ret2
          exact ⟨_, L, _, s2, _, rfl, hb2.trans (ButP.of_bel (by (repeat (first | exact Bel.refl _ | assumption | refine Bel.step_alloc ?_ _ | refine Bel.step_drew ?_ | refine Bel.step_drewN ?_ _ | refine Bel.step_set ?_ (by simp <;> omega) _ | refine Bel.trans ?_ (by assumption))))), TextAt.later ⟨d0, d1, e0, e1⟩ (by (repeat (first | exact Bel.refl _ | assumption | refine Bel.step_alloc ?_ _ | refine Bel.step_drew ?_ | refine Bel.step_drewN ?_ _ | refine Bel.step_set ?_ (by simp <;> omega) _ | refine Bel.trans ?_ (by assumption)))), hs2, hents.later (by (repeat (first | exact Bel.refl _ | assumption | refine Bel.step_alloc ?_ _ | refine Bel.step_drew ?_ | refine Bel.step_drewN ?_ _ | refine Bel.step_set ?_ (by simp <;> omega) _ | refine Bel.trans ?_ (by assumption)))), by omega, hall⟩

end Go.Proofs.YtgfildmmcbjpnabGreat
