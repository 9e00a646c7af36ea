import Derived.Test.YtgfildmmcbjpnabGreatLAE
import Derived.Test.YtgfildmmcbjpnabGreatLAF
namespace Go.Proofs.YtgfildmmcbjpnabGreat
open Go.RowKit

def U64 (x : Int) : Prop := 0 ≤ x ∧ x < 18446744073709551616
theorem xorW_nat {a b : Int} (ha : U64 a) (hb : U64 b) : xorW a b = ((a.toNat ^^^ b.toNat : Nat) : Int) ∧ a.toNat ^^^ b.toNat < 18446744073709551616 := by
  obtain ⟨A, rfl⟩ := Int.eq_ofNat_of_zero_le ha.1
  obtain ⟨B, rfl⟩ := Int.eq_ofNat_of_zero_le hb.1
  have h1 := ha.2
  have h2 := hb.2
  refine ⟨u64_xor_nat A B (by omega) (by omega), ?_⟩
  have : A ^^^ B < 2 ^ 64 := Nat.xor_lt_two_pow (by omega) (by omega)
  simp only [Int.toNat_natCast]
  omega
theorem xorW_u64 {a b : Int} (ha : U64 a) (hb : U64 b) : U64 (xorW a b) := by
  obtain ⟨h1, h2⟩ := xorW_nat ha hb
  rw [h1]
  exact ⟨by omega, by omega⟩
theorem xorW_comm {a b : Int} (ha : U64 a) (hb : U64 b) : xorW a b = xorW b a := by
  rw [(xorW_nat ha hb).1, (xorW_nat hb ha).1, Nat.xor_comm]
theorem xorW_assoc {a b c : Int} (ha : U64 a) (hb : U64 b) (hc : U64 c) : xorW (xorW a b) c = xorW a (xorW b c) := by
  rw [(xorW_nat (xorW_u64 ha hb) hc).1, (xorW_nat ha (xorW_u64 hb hc)).1, (xorW_nat ha hb).1, (xorW_nat hb hc).1]
  simp only [Int.toNat_natCast]
  rw [Nat.xor_assoc]
theorem wv_u64 {a b : Int} (ha : W32 a) (hb : W32 b) : U64 (wv a b) := wv_range ha hb
theorem wordF_u64 (t : ByteArray) (f : Nat) : U64 (wordF t f) := by
  rw [wordF_eq]
  have b0 := byteAt_range t f
  have b1 := byteAt_range t (f + 1)
  have b2 := byteAt_range t (f + 2)
  have b3 := byteAt_range t (f + 3)
  have b4 := byteAt_range t (f + 4)
  have b5 := byteAt_range t (f + 5)
  have b6 := byteAt_range t (f + 6)
  have b7 := byteAt_range t (f + 7)
  unfold U64
  omega
theorem byteAt_extract (s : ByteArray) (a b i : Nat) (hb : b ≤ s.size) (hi : a + i < b) : byteAt (s.extract a b) i = byteAt s (a + i) := by
  have h1 : i < (s.extract a b).size := by rw [ByteArray.size_extract]; omega
  have h2 : a + i < s.size := by omega
  unfold byteAt
  rw [dif_pos h1, dif_pos h2, ByteArray.getElem_extract]
theorem wordF_sub (s : ByteArray) (a b : Nat) (hb : b ≤ s.size) (h8 : a + 8 ≤ b) : wordF (s.extract a b) 0 = wordF s a := by
  have e : ∀ j, j < 8 → byteAt (s.extract a b) j = byteAt s (a + j) := fun j hj => byteAt_extract s a b j hb (by omega)
  rw [wordF_eq, wordF_eq]
  simp only [Nat.zero_add]
  rw [e 7 (by omega), e 6 (by omega), e 5 (by omega), e 4 (by omega), e 3 (by omega), e 2 (by omega), e 1 (by omega), e 0 (by omega)]
  rfl
theorem byteAt_in (s : ByteArray) (i : Nat) (h : i < s.size) : byteAt s i = (s[i].toNat : Int) := by
  unfold byteAt
  rw [dif_pos h]
theorem byteAt_app_l (s t : ByteArray) (i : Nat) (h : i < s.size) : byteAt (s ++ t) i = byteAt s i := by
  have h1 : i < (s ++ t).size := by rw [ByteArray.size_append]; omega
  unfold byteAt
  rw [dif_pos h1, dif_pos h, ByteArray.getElem_append_left]
theorem byteAt_app_r (s t : ByteArray) (i : Nat) : byteAt (s ++ t) (s.size + i) = byteAt t i := by
  unfold byteAt
  by_cases h : i < t.size
  · have h1 : s.size + i < (s ++ t).size := by rw [ByteArray.size_append]; omega
    rw [dif_pos h1, dif_pos h, ByteArray.getElem_append_right (by omega)]
    simp only [Nat.add_sub_cancel_left]
  · have h1 : ¬ s.size + i < (s ++ t).size := by rw [ByteArray.size_append]; omega
    rw [dif_neg h1, dif_neg h]
theorem read_fin (s : ByteArray) (hs : s.size = 8) : wv (((s[7].toNat * 256 + s[6].toNat) * 256 + s[5].toNat) * 256 + s[4].toNat) (((s[3].toNat * 256 + s[2].toNat) * 256 + s[1].toNat) * 256 + s[0].toNat) = wordF s 0 := by
  rw [wordF_eq]
  simp only [Nat.zero_add]
  rw [byteAt_in s 7 (by omega), byteAt_in s 6 (by omega), byteAt_in s 5 (by omega), byteAt_in s 4 (by omega), byteAt_in s 3 (by omega), byteAt_in s 2 (by omega), byteAt_in s 1 (by omega), byteAt_in s 0 (by omega)]
  unfold wv
  omega

set_option maxRecDepth 100000 in
set_option maxHeartbeats 1600000 in
theorem wread_is (s : ByteArray) (w : World) (hs : s.size = 8) :
    Calls Tryz.prog 111 #[.string s] w (RWord w (WEq (wordF s 0))) := by
  have E := Hid.mk (read_fin s hs)
  generalize wordF s 0 = V at *
  have b0 := byte_bd s 0 (by omega)
  have b1 := byte_bd s 1 (by omega)
  have b2 := byte_bd s 2 (by omega)
  have b3 := byte_bd s 3 (by omega)
  have b4 := byte_bd s 4 (by omega)
  have b5 := byte_bd s 5 (by omega)
  have b6 := byte_bd s 6 (by omega)
  have b7 := byte_bd s 7 (by omega)
  go_enter Tryz.func111, Tryz.ntmps111
  go_wp2
  refine wp_loop_rounds 5 ?_
  rw [rounds_succ]
  go_wp2
  go_region
  go_wp2
  go_region
  go_wp2
  rw [rounds_succ]
  go_wp2
  go_region
  go_wp2
  go_region
  go_wp2
  rw [rounds_succ]
  go_wp2
  go_region
  go_wp2
  go_region
  go_wp2
  rw [rounds_succ]
  go_wp2
  go_region
  go_wp2
  go_region
  go_wp2
  rw [rounds_succ]
  go_wp2
  exact bodyPost_ret (v := .agg #[.int .i64 (((s[7].toNat * 256 + s[6].toNat) * 256 + s[5].toNat) * 256 + s[4].toNat), .int .i64 (((s[3].toNat * 256 + s[2].toNat) * 256 + s[1].toNat) * 256 + s[0].toNat)]) (by simp [results, Tryz.results111, go_sem]) rfl ⟨_, _, rfl, by (repeat (first | exact Bel.refl _ | assumption | refine Bel.step_alloc ?_ _ | refine Bel.step_drew ?_ | refine Bel.step_drewN ?_ _ | refine Bel.step_set ?_ (by simp <;> omega) _ | refine Bel.trans ?_ (by assumption))), ⟨by omega, by omega⟩, ⟨by omega, by omega⟩, E.out⟩

/-- the four words that a hash begins with -/
def nmW (s : ByteArray) : Int := wv (numOf (s.extract 0 4).data.toList) (numOf (s.extract 4 8).data.toList)
def sipC (j : Nat) : Int := if j = 0 then 8317987319222330741 else if j = 1 then 7237128888997146477 else if j = 2 then 7816392313619706465 else 8387220255154660723
def NamesE (wc : World) (bn : Nat) : Prop := ∀ j : Nat, j < 4 → ∃ s : ByteArray, s.size = 8 ∧ wc.cell? ⟨bn, j, none⟩ = some (.string s) ∧ nmW s = sipC j
theorem NamesE.later {a w : World} {bn : Nat} (h : NamesE a bn) (k : Bel a w) : NamesE w bn := fun j hj => by
  obtain ⟨s, hs, hc, he⟩ := h j hj
  exact ⟨s, hs, k.cell hc, he⟩
theorem namesE0 (w : World) (a b c d : ByteArray) (ha : a.size = 8) (hb : b.size = 8) (hc : c.size = 8) (hd : d.size = 8) (ea : nmW a = sipC 0) (eb : nmW b = sipC 1) (ec : nmW c = sipC 2) (ed : nmW d = sipC 3) (t : TypeId) (bn : Nat) (hbn : bn = w.heap.size) : NamesE (w.alloc (.cells #[.string a, .string b, .string c, .string d] t)) bn := by
  subst hbn
  intro j hj
  match j, hj with
  | 0, _ => exact ⟨a, ha, by simp, ea⟩
  | 1, _ => exact ⟨b, hb, by simp, eb⟩
  | 2, _ => exact ⟨c, hc, by simp, ec⟩
  | 3, _ => exact ⟨d, hd, by simp, ed⟩
def sipV (K L : Int) (j : Nat) : Int := if j % 2 = 0 then xorW (sipC j) K else xorW (sipC j) L
theorem sipC_u64 (j : Nat) : U64 (sipC j) := by
  unfold sipC U64
  split
  · omega
  · split
    · omega
    · split <;> omega
theorem sipV_begin {K L : Int} (hK : U64 K) (hL : U64 L) : (⟨sipV K L 0, sipV K L 1, sipV K L 2, sipV K L 3⟩ : S4) = sipBegin K L := by
  have h0 : sipV K L 0 = xorW K (sipC 0) := by show xorW (sipC 0) K = _; exact xorW_comm (sipC_u64 0) hK
  have h1 : sipV K L 1 = xorW L (sipC 1) := by show xorW (sipC 1) L = _; exact xorW_comm (sipC_u64 1) hL
  have h2 : sipV K L 2 = xorW K (sipC 2) := by show xorW (sipC 2) K = _; exact xorW_comm (sipC_u64 2) hK
  have h3 : sipV K L 3 = xorW L (sipC 3) := by show xorW (sipC 3) L = _; exact xorW_comm (sipC_u64 3) hL
  rw [h0, h1, h2, h3]
  rfl
/-- words gathered, with their values -/
def GathE (w : World) (K L : Int) (vk vl : Value) (bn : Nat) (v : Value) (k : Nat) (xs : List (Int × Int)) (wr : World) : Prop :=
  ∃ S : World, StE w [(vk, K), (vl, L)] S ∧ NamesE S bn ∧ Bel S wr ∧ wr.ownsRow S.heap.size 129 2 v k (wcellsS xs) ∧ xs.map (fun p => wv p.1 p.2) = (List.range k).map (sipV K L)
theorem GathE.step {w : World} {K L : Int} {vk vl : Value} {bn : Nat} {v v' : Value} {k : Nat} {xs : List (Int × Int)} {wr W w' : World} {p : Int × Int} {S : World} (h1 : StE w [(vk, K), (vl, L)] S) (h2 : NamesE S bn) (h3 : Bel S wr) (h4 : wr.ownsRow S.heap.size 129 2 v k (wcellsS xs)) (h5 : xs.map (fun p => wv p.1 p.2) = (List.range k).map (sipV K L))
    (hW : Bel wr W) (hg : W.grownBy w' v.ownBlock) (ho : w'.ownsRow S.heap.size 129 2 v' (k + 1) (wcellsS xs ++ [.int .i64 p.1, .int .i64 p.2])) (hp : wv p.1 p.2 = sipV K L k) : GathE w K L vk vl bn v' (k + 1) (xs ++ [p]) w' := by
  refine ⟨S, h1, h2, ?_, by rw [wcellsS_snoc]; exact ho, ?_⟩
  · exact (h3.trans hW).grown hg fun g hg' => (h4.lt g hg').1
  · rw [List.map_append, List.range_succ, List.map_append, h5, List.map_cons, List.map_nil, hp]
    rfl
theorem fourE_of_owns {w : World} {base : Nat} {v : Value} {xs : List (Int × Int)} {K L : Int} (h : w.ownsRow base 129 2 v 4 (wcellsS xs)) (hx : ∀ p ∈ xs, W32 p.1 ∧ W32 p.2) (he : xs.map (fun p => wv p.1 p.2) = (List.range 4).map (sipV K L)) (hK : U64 K) (hL : U64 L) :
    ∃ g cap, v = .slice (some ⟨g, 0, none⟩) 4 cap ∧ base ≤ g ∧ FourE w g (sipBegin K L) := by
  have hl : xs.length = 4 := by have := congrArg List.length he; simpa using this
  rcases h.2 with ⟨_, h2⟩ | ⟨g, cap, cur, hv, hg, hh, r1, r2, r3, r4⟩
  · cases h2
  · refine ⟨g, cap, hv, hg, ?_⟩
    match xs, hl with
    | [p0, p1, p2, p3], _ =>
      have hc := h.cells (g := g) (by rw [hv]; rfl)
      rw [← sipV_begin hK hL]
      have e4 : (List.range 4).map (sipV K L) = [sipV K L 0, sipV K L 1, sipV K L 2, sipV K L 3] := rfl
      rw [e4] at he
      simp only [List.map_cons, List.map_nil, List.cons.injEq, and_true] at he
      exact ⟨p0.1, p0.2, p1.1, p1.2, p2.1, p2.2, p3.1, p3.2, ⟨(hx p0 (by simp)).1, (hx p0 (by simp)).2, (hx p1 (by simp)).1, (hx p1 (by simp)).2, (hx p2 (by simp)).1, (hx p2 (by simp)).2, (hx p3 (by simp)).1, (hx p3 (by simp)).2⟩, ⟨hc 0 _ rfl, hc 1 _ rfl, hc 2 _ rfl, hc 3 _ rfl, hc 4 _ rfl, hc 5 _ rfl, hc 6 _ rfl, hc 7 _ rfl⟩, he.1, he.2.1, he.2.2.1, he.2.2.2⟩
/-- a text, filled up with noughts -/
def Filled (t s : ByteArray) : Prop := t.size ≤ s.size ∧ (∀ i, i < t.size → byteAt s i = byteAt t i) ∧ ∀ i, t.size ≤ i → byteAt s i = 0
theorem Filled.refl (t : ByteArray) : Filled t t := ⟨Nat.le_refl _, fun _ _ => rfl, fun i hi => byteAt_out t i (by omega)⟩
theorem Filled.more {t s : ByteArray} (h : Filled t s) : Filled t (s ++ ⟨#[0]⟩) := by
  obtain ⟨h1, h2, h3⟩ := h
  refine ⟨by rw [ByteArray.size_append]; omega, fun i hi => by rw [byteAt_app_l _ _ _ (by omega)]; exact h2 i hi, fun i hi => ?_⟩
  by_cases hs : i < s.size
  · rw [byteAt_app_l _ _ _ hs]; exact h3 i hi
  · obtain ⟨j, rfl⟩ : ∃ j, i = s.size + j := ⟨i - s.size, by omega⟩
    rw [byteAt_app_r]
    by_cases hj : j = 0
    · subst hj; rfl
    · exact byteAt_out _ _ (by show ¬ j < 1; omega)
theorem Filled.done {t s : ByteArray} (h : Filled t s) (hz : s.size = 8 * (t.size / 8) + 7) : Padded t (s ++ one ((t.size : Int) % 256)) := by
  obtain ⟨h1, h2, h3⟩ := h
  refine ⟨fun i hi => by rw [byteAt_app_l _ _ _ (by omega)]; exact h2 i hi, fun i hi hi2 => by rw [byteAt_app_l _ _ _ (by omega)]; exact h3 i hi, ?_, by rw [ByteArray.size_append, one_size]; omega⟩
  rw [← hz, show s.size = s.size + 0 from rfl, byteAt_app_r, byteAt_in _ 0 (by rw [one_size]; omega)]
  have : (one ((t.size : Int) % 256))[0]'(by rw [one_size]; omega) = UInt8.ofNat ((t.size : Int) % 256).toNat := rfl
  rw [this, UInt8.toNat_ofNat']
  omega
theorem sipTo_padded {t y : ByteArray} (h : Padded t y) (s : S4) : ∀ n, n ≤ t.size / 8 → sipTo y s n = sipTo t s n := by
  intro n
  induction n with
  | zero => intro _; rfl
  | succ n ih =>
    intro hn
    rw [sipTo, sipTo, ih (by omega), h.word n (by omega)]
theorem sipTo_last {t y : ByteArray} (h : Padded t y) (s : S4) : sipTo y s (t.size / 8 + 1) = (sipTo t s (t.size / 8)).take (bits .or .u64 (wordF t (8 * (t.size / 8))) ((t.size : Int) * 72057594037927936 % 18446744073709551616)) := by
  rw [sipTo, sipTo_padded h s _ (Nat.le_refl _), h.last]

end Go.Proofs.YtgfildmmcbjpnabGreat
