import Derived.Test.YtpapdkhjdelfcabGreatKBS
import Derived.Test.YtpapdkhjdelfcabGreatKBV
import Derived.Test.YtpapdkhjdelfcabGreatKBW
import Derived.Test.YtpapdkhjdelfcabGreatKAA
import Derived.Test.YtpapdkhjdelfcabGreatRows
import Derived.WalkKit
import Derived.ProofKit
import Derived.OpenShut
import Derived.ChangeOld
import Derived.Below
import Derived.Deep.Slices
import Derived.SizedLaws
import Derived.Test.YtpapdkhjdelfcabGreatKAK
namespace Go.Proofs.YtpapdkhjdelfcabGreat
open Go.RowKit

set_option maxRecDepth 100000 in
set_option maxHeartbeats 400000 in
theorem step_bytes (W0 : World) (p s : Nat) (k : KI) (a b c : Int) (S : ByteArray) (w : World) (h : KInv W0 p s k w) (hR : k.Rdy s) (hs : s ≤ 65600) (ha : I64 a) (hb : I64 b) :
    Calls Tryz.prog 36 #[.pointer (some ⟨p, 0, none⟩), opV 13 a b c S] w (RStep W0 p (s + 1) FS) := by
  have hwr := fun wx (b' : Bel w wx) => kwritten_is (h.later b') hs a b ha hb
  have hpM := (h.lt p (h.inM p h.p_in)).1
  have hplt := h.at_.lt (by rw [wl_len]; decide)
  have HR := Hid.mk hR
  clear h hR
  unfold opV
  go_enter Tryz.func36, Tryz.ntmps36
  go_wp2_with fail
  refine (hwr _ (by (repeat (first | exact Bel.refl _ | assumption | refine Bel.step_alloc ?_ _ | refine Bel.step_drew ?_ | refine Bel.step_drewN ?_ _ | refine Bel.step_set ?_ (by simp <;> omega) _ | refine Bel.trans ?_ (by assumption))))).mono ?_
  rintro e w2 ⟨ok, img', rfl, hk2⟩
  have hfa := fails_is p _ 128 w2 hk2.at_ (by rw [wl_len]; decide)
  have h0 := hk2.at_.1 0 _ rfl
  have hB2 := hk2.bel
  have HK := Hid.mk hk2
  clear hwr hk2
  cases ok
  · go_wp2_with fail
    refine hfa.mono ?_
    rintro e w3 ⟨rfl, rfl⟩
    clear hfa
    go_wp2
    go_ret
    exact Or.inr ⟨rfl, hB2.step_set hpM _, 128, Or.inr (by simp), set_same h0⟩
  · clear hfa h0
    go_wp2
    go_ret
    exact Or.inl ⟨rfl, _, HK.out.up (by omega), (HR.out.up (by omega : s ≤ s + 1) : k.Rdy (s + 1))⟩

theorem step_all (W0 : World) (p s : Nat) (k : KI) (kd a b c : Int) (S : ByteArray) (w : World) (h : KInv W0 p s k w) (hR : k.Rdy s) (hs : s ≤ 65600) (ha : I64 a) (hb : I64 b) (hc : I64 c) (hS : S.size ≤ maxLen) :
    Calls Tryz.prog 36 #[.pointer (some ⟨p, 0, none⟩), opV kd a b c S] w (RStep W0 p (s + 1) FS) := by
  by_cases k1 : kd = 1
  · subst k1; exact step_num W0 p s k a b c S w h hR ha hb
  by_cases k2 : kd = 2
  · subst k2; exact step_key W0 p s k a b c S w h hR
  by_cases k3 : kd = 3
  · subst k3; exact step_new W0 p s k a b c S w h hR
  by_cases k4 : kd = 4
  · subst k4; exact step_delta W0 p s k a b c S w h hR hs ha hb hS
  by_cases k5 : kd = 5
  · subst k5; exact step_drop W0 p s k a b c S w h hR
  by_cases k6 : kd = 6
  · subst k6; exact step_join W0 p s k a b c S w h hR ha
  by_cases k12 : kd = 12
  · subst k12; exact step_same W0 p s k a b c S w h hR
  by_cases k13 : kd = 13
  · subst k13; exact step_bytes W0 p s k a b c S w h hR hs ha hb
  by_cases hpp : k.pp.length = 0
  · exact step_none W0 p s k kd a b c S w h hR hpp ⟨by omega, k12, k13⟩
  have hpp' : 0 < k.pp.length := by omega
  by_cases k7 : kd = 7
  · subst k7; exact step_round W0 p s k a b c S w h hR hs hpp' ha
  by_cases k8 : kd = 8
  · subst k8; exact step_old W0 p s k a b c S w h hR hs hpp' ha hb
  by_cases k9 : kd = 9
  · subst k9; exact step_burst W0 p s k a b c S w h hR hs hpp' ha hb hc
  by_cases k10 : kd = 10
  · subst k10; exact step_restart W0 p s k a b c S w h hR hs hpp' ha
  by_cases k11 : kd = 11
  · subst k11; exact step_soon W0 p s k a b c S w h hR hs hpp' ha hb
  exact step_else W0 p s k kd a b c S w h hR hs hpp' ha (by omega)

end Go.Proofs.YtpapdkhjdelfcabGreat

namespace Go.Proofs.YtpapdkhjdelfcabGreat
open Go.ChangeShapes Go.WideShapes Go.ChangeAt Go.RowKit Go.Deep

/-- step i of a script -/
def OpAt (w : World) (a : Option Addr) (i : Nat) (kd x y z : Int) (S : ByteArray) : Prop :=
  (∃ b o, a = some ⟨b, o, none⟩ ∧ w.cell? ⟨b, o + i * 5, none⟩ = some (.int .i64 kd) ∧ w.cell? ⟨b, o + i * 5 + 1, none⟩ = some (.int .i64 x) ∧ w.cell? ⟨b, o + i * 5 + 2, none⟩ = some (.int .i64 y) ∧ w.cell? ⟨b, o + i * 5 + 3, none⟩ = some (.int .i64 z) ∧ w.cell? ⟨b, o + i * 5 + 4, none⟩ = some (.string S)) ∧
  I64 kd ∧ I64 x ∧ I64 y ∧ I64 z ∧ S.size ≤ 140737488355328
def IsOps (w : World) (a : Option Addr) (len : Nat) : Prop := len ≤ maxLen ∧ ∀ i, i < len → ∃ kd x y z S, OpAt w a i kd x y z S

theorem wf_i64 {n : Int} (h : (Lit.int .i64 n).wf = true) : I64 n := by
  simp only [Lit.wf, Bool.and_eq_true, decide_eq_true_eq] at h
  have h1 : IntKind.i64.min = -9223372036854775808 := by decide
  have h2 : IntKind.i64.max = 9223372036854775807 := by decide
  unfold I64
  omega

theorem wAll_mem {H : Type} {P : Program} {e : TypeId} : ∀ {l : List (DataW H)} {d : DataW H}, d ∈ l → ∀ n ∈ d.weights P e, n ∈ DataW.weightsAll P e l
  | [], d, h, _, _ => by cases h
  | x :: l, d, h, n, hn => by
    rw [DataW.weightsAll, List.mem_append]
    rcases List.mem_cons.1 h with rfl | h
    · exact Or.inl hn
    · exact Or.inr (wAll_mem h n hn)

set_option maxRecDepth 100000 in
theorem open_ops {H : Type} {enc : TypeId × Value → H} {W : World} {spare : Nat → Bool} {held : Bool} {fuel : Nat} {cs : List Value} {x : DataW H × List MemPlace} (h : DataW.trod enc Tryz.prog W 0 spare held fuel 25 cs = some x)
    (hsz : ∀ n ∈ x.1.weights Tryz.prog 25, n ≤ reachBytes) : ∃ a len cap, cs = [.slice a len cap] ∧ IsOps W a len := by
  rcases open_slice Tryz.underlying25 h with ⟨rfl, _⟩ | ⟨a, len, cap, m, n, D, Pl, rfl, _, hl, hm, hmm, hxe, hall⟩
  · exact ⟨none, 0, 0, rfl, Nat.zero_le _, fun i hi => by omega⟩
  · refine ⟨some a, len, cap, rfl, Nat.le_trans hl hm, fun i hi => ?_⟩
    obtain ⟨cs', hc, hd⟩ := hall i (by subst hmm; split <;> omega)
    obtain ⟨xs, k, _, hx, hlen, hxl, hf⟩ := DataW.trod_struct Tryz.underlying48 hd
    have h5 : Tryz.prog.cellsOf 48 = 5 := by kernel_rfl
    have hi1 : Tryz.prog.cellsOf 3 = 1 := by kernel_rfl
    have hs1 : Tryz.prog.cellsOf 9 = 1 := by kernel_rfl
    rw [h5] at hc hlen
    obtain ⟨_, _, hcell⟩ := World.cells?_some hc
    match cs', hlen, xs, hxl with
    | [c0, c1, c2, c3, c4], _, [y0, y1, y2, y3, y4], _ =>
      have g0 : DataW.trod enc Tryz.prog W 0 spare held k 3 (([c0, c1, c2, c3, c4].drop 0).take (Tryz.prog.cellsOf 3)) = some y0 := hf 0 _ rfl
      rw [hi1] at g0
      have g1 : DataW.trod enc Tryz.prog W 0 spare held k 3 (([c0, c1, c2, c3, c4].drop 1).take (Tryz.prog.cellsOf 3)) = some y1 := hf 1 _ rfl
      rw [hi1] at g1
      have g2 : DataW.trod enc Tryz.prog W 0 spare held k 3 (([c0, c1, c2, c3, c4].drop 2).take (Tryz.prog.cellsOf 3)) = some y2 := hf 2 _ rfl
      rw [hi1] at g2
      have g3 : DataW.trod enc Tryz.prog W 0 spare held k 3 (([c0, c1, c2, c3, c4].drop 3).take (Tryz.prog.cellsOf 3)) = some y3 := hf 3 _ rfl
      rw [hi1] at g3
      have g4 : DataW.trod enc Tryz.prog W 0 spare held k 9 (([c0, c1, c2, c3, c4].drop 4).take (Tryz.prog.cellsOf 9)) = some y4 := hf 4 _ rfl
      rw [hs1] at g4
      obtain ⟨n0, e0, _, w0⟩ := DataW.trod_int Tryz.underlying3 g0
      obtain ⟨n1, e1, _, w1⟩ := DataW.trod_int Tryz.underlying3 g1
      obtain ⟨n2, e2, _, w2⟩ := DataW.trod_int Tryz.underlying3 g2
      obtain ⟨n3, e3, _, w3⟩ := DataW.trod_int Tryz.underlying3 g3
      obtain ⟨n4, e4, e5, w4⟩ := DataW.trod_string Tryz.underlying9 g4
      simp only [List.drop_zero, List.drop_succ_cons, List.take_succ_cons, List.take_zero, List.cons.injEq, and_true] at e0 e1 e2 e3 e4
      subst e0 e1 e2 e3 e4 e5
      have hwt : n4.data.toList.length ≤ reachBytes := by
        refine hsz _ ?_
        rw [hxe]
        simp only [DataW.weights, Tryz.underlying25, List.mem_cons, List.mem_append]
        refine Or.inr (Or.inl (wAll_mem (d := D i) (List.mem_map.2 ⟨i, List.mem_range.2 hi, rfl⟩) _ ?_))
        have hD : D i = _ := (congrArg Prod.fst hx : _)
        rw [hD]
        simp [DataW.weights, DataW.weightsEach, Tryz.underlying48]
      have hwt2 : n4.size ≤ 140737488355328 := by
        have h1 : n4.size = n4.data.toList.length := rfl
        have h2 : reachBytes < 2 ^ 47 := reachBytes_lt
        omega
      obtain ⟨b, o, spot⟩ := a
      have q0 := hcell 0 (by omega)
      have hspot : spot = none := by
        obtain ⟨cs0, hc0, _⟩ := hall 0 (by subst hmm; split <;> omega)
        rw [h5] at hc0
        obtain ⟨_, hl0, hcell0⟩ := World.cells?_some hc0
        have r0 := hcell0 0 (by omega)
        rw [List.getElem?_eq_getElem (by omega)] at r0
        simpa [Addr.add] using World.cell?_spot r0
      subst hspot
      have q1 := hcell 1 (by omega)
      have q2 := hcell 2 (by omega)
      have q3 := hcell 3 (by omega)
      have q4 := hcell 4 (by omega)
      have hadd : ∀ j k, ((⟨b, o, none⟩ : Addr).add j).add k = ⟨b, o + j + k, none⟩ := fun j k => by unfold Addr.add; split <;> split <;> simp_all
      rw [hadd] at q0 q1 q2 q3 q4
      exact ⟨n0, n1, n2, n3, n4, ⟨b, o, rfl, q0, q1, q2, q3, q4⟩, wf_i64 w0, wf_i64 w1, wf_i64 w2, wf_i64 w3, hwt2⟩

end Go.Proofs.YtpapdkhjdelfcabGreat

namespace Go.Proofs.YtpapdkhjdelfcabGreat
open Go.RowKit

def RSmall (len : Nat) (w : World) (e : Ending) (w' : World) : Prop := ∃ x, e = .returned (.bool x) ∧ w = w' ∧ (x = true → len ≤ 65536)

set_option maxRecDepth 100000 in
set_option maxHeartbeats 400000 in
theorem small_is (a : Option Addr) (len cap : Nat) (w : World) (h : IsOps w a len) : Calls Tryz.prog 19 #[.slice a len cap] w (RSmall len w) := by
  by_cases hl : 65536 < len
  · have hd : decide ((len : Int) > 65536) = true := decide_eq_true (by omega)
    go_enter Tryz.func19, Tryz.ntmps19
    go_wp2
    go_ret
    exact ⟨false, rfl, rfl, by simp⟩
  · have hd : decide ((len : Int) > 65536) = false := decide_eq_false (by omega)
    have HI := Hid.mk h
    have hl2 : len ≤ 65536 := by omega
    clear h hl
    go_enter Tryz.func19, Tryz.ntmps19
    go_wp2
    go_loopg [3, 4] len (fun r nn ni wr => ∃ k s : Nat, nn = .int .i64 (s : Int) ∧ ni = .int .i64 (k : Int) ∧ k ≤ len ∧ s ≤ 65536 ∧ r = len - k ∧ wr = w)
    case atStart => exact ⟨0, len, rfl, rfl, by omega, by omega, by omega, rfl⟩
    case round =>
      obtain ⟨k, s, rfl, rfl, hk, hs, hr, rfl⟩ := hrel
      by_cases hkl : k < len
      · obtain ⟨kd, x, y, z, S, ⟨b, o, rfl, -, -, -, -, c4⟩, -, -, -, -, hS⟩ := HI.out.2 k hkl
        have hk1 : decide ((k : Int) < (len : Int)) = true := decide_eq_true (by omega)
        have hwr : wrap64 ((s : Int) + (S.size : Int)) = ((s + S.size : Nat) : Int) := by unfold wrap64; omega
        have hwr2 : IntKind.i64.wrap ((s : Int) + (S.size : Int)) = ((s + S.size : Nat) : Int) := by rw [IntKind.wrap_i64]; omega
        by_cases hgt : 65536 < s + S.size
        · have hg1 : decide (((s + S.size : Nat) : Int) > 65536) = true := decide_eq_true (by omega)
          go_wp2
          go_ret
          exact ⟨false, rfl, rfl, by simp⟩
        · have hg1 : decide (((s + S.size : Nat) : Int) > 65536) = false := decide_eq_false (by omega)
          go_wp2
          go_roundg (len - (k + 1))
          case measure => omega
          case rel => exact ⟨k + 1, s + S.size, by go_num, by go_num, by omega, by omega, rfl, rfl⟩
      · have hk1 : decide ((k : Int) < (len : Int)) = false := decide_eq_false (by omega)
        go_wp2
        go_ret
        exact ⟨true, rfl, rfl, fun _ => hl2⟩

end Go.Proofs.YtpapdkhjdelfcabGreat

namespace Go.Proofs.YtpapdkhjdelfcabGreat
open Go.RowKit

/-- sums over the first l -/
def sumN (f : Nat → Nat) : Nat → Nat
  | 0 => 0
  | l + 1 => sumN f l + f l
theorem sumN_add (f g : Nat → Nat) (l : Nat) : sumN (fun i => f i + g i) l = sumN f l + sumN g l := by
  induction l with
  | zero => rfl
  | succ l ih => simp only [sumN, ih]; omega
theorem sumN_zero (f : Nat → Nat) (l : Nat) (h : ∀ i, i < l → f i = 0) : sumN f l = 0 := by
  induction l with
  | zero => rfl
  | succ l ih => simp only [sumN]; rw [ih (fun i hi => h i (by omega)), h l (by omega)]
theorem sumN_one (k l : Nat) (hk : k < l) : sumN (fun i => if i = k then 1 else 0) l = 1 := by
  induction l with
  | zero => omega
  | succ l ih =>
    simp only [sumN]
    by_cases h : l = k
    · subst h
      rw [sumN_zero _ _ (fun i hi => if_neg (by omega)), if_pos rfl]
    · rw [ih (by omega), if_neg h]
theorem sumN_le (f g : Nat → Nat) (l : Nat) (h : ∀ i, i < l → f i ≤ g i) : sumN f l ≤ sumN g l := by
  induction l with
  | zero => exact Nat.le_refl _
  | succ l ih => simp only [sumN]; have := ih (fun i hi => h i (by omega)); have := h l (by omega); omega
theorem sumN_lt (f g : Nat → Nat) (l : Nat) (h : ∀ i, i < l → f i ≤ g i) (k : Nat) (hk : k < l) (hlt : f k < g k) : sumN f l < sumN g l := by
  induction l with
  | zero => omega
  | succ l ih =>
    simp only [sumN]
    by_cases hl : l = k
    · subst hl
      have := sumN_le f g l (fun i hi => h i (by omega)); omega
    · have := ih (fun i hi => h i (by omega)) (by omega); have := h l (by omega); omega
theorem sumN_congr (f g : Nat → Nat) (l : Nat) (h : ∀ i, i < l → f i = g i) : sumN f l = sumN g l := by
  induction l with
  | zero => rfl
  | succ l ih => simp only [sumN]; rw [ih (fun i hi => h i (by omega)), h l (by omega)]
/-- a row whose numbers all lie below l, counted by number -/
theorem len_sum (l : Nat) (S : List Int) (h : ∀ x ∈ S, ∃ i : Nat, i < l ∧ x = (i : Int)) : S.length = sumN (fun i => S.count (i : Int)) l := by
  induction S with
  | nil => simp; rw [sumN_zero _ _ (fun _ _ => by simp)]
  | cons x S ih =>
    obtain ⟨k, hk, rfl⟩ := h x List.mem_cons_self
    have he : sumN (fun i => ((k : Int) :: S).count (i : Int)) l = sumN (fun i => S.count (i : Int) + if i = k then 1 else 0) l := by
      refine sumN_congr _ _ _ fun i _ => ?_
      rw [List.count_cons]
      congr 1
      by_cases hik : i = k
      · subst hik; simp
      · rw [if_neg hik, if_neg]; simp; omega
    rw [he, sumN_add, sumN_one k l hk, ← ih (fun x hx => h x (List.mem_cons_of_mem _ hx)), List.length_cons]
theorem count_le_one (f : Nat → Nat) (n : Nat) (hf : ∀ i j, i < j → j < n → f i ≠ f j) (v : Nat) : ∀ m, m ≤ n → ((List.range m).map fun i => ((f i : Nat) : Int)).count (v : Int) ≤ 1 := by
  intro m
  induction m with
  | zero => intro _; simp
  | succ m ih =>
    intro hm
    rw [List.range_succ, List.map_append, List.count_append]
    by_cases hv : f m = v
    · have h0 : ((List.range m).map fun i => ((f i : Nat) : Int)).count (v : Int) = 0 := by
        rw [List.count_eq_zero]
        intro hmem
        obtain ⟨i, hi, e⟩ := List.mem_map.1 hmem
        exact hf i m (List.mem_range.1 hi) (by omega) (by omega)
      rw [h0, Nat.zero_add]
      exact List.count_le_length
    · have := ih (by omega)
      have h1 : (List.map (fun i => ((f i : Nat) : Int)) [m]).count (v : Int) = 0 := by
        rw [List.count_eq_zero]
        intro hmem
        simp at hmem
        omega
      omega
/-- what meets no number twice meets every number -/
theorem onto (f : Nat → Nat) (n : Nat) (hf : ∀ i j, i < j → j < n → f i ≠ f j) (hr : ∀ i, i < n → f i < n) (v : Nat) (hv : v < n) : ∃ i, i < n ∧ f i = v := by
  have hl := len_sum n ((List.range n).map fun i => ((f i : Nat) : Int)) (by
    intro x hx
    obtain ⟨i, hi, rfl⟩ := List.mem_map.1 hx
    exact ⟨f i, hr i (List.mem_range.1 hi), rfl⟩)
  rw [List.length_map, List.length_range] at hl
  by_cases h0 : ((List.range n).map fun i => ((f i : Nat) : Int)).count (v : Int) = 0
  · have h1 := sumN_lt (fun i => ((List.range n).map fun i => ((f i : Nat) : Int)).count (i : Int)) (fun _ => 1) n (fun i _ => count_le_one f n hf i n (Nat.le_refl _)) v hv (by show List.count _ _ < 1; omega)
    have h2 : ∀ l, sumN (fun _ => 1) l = l := fun l => by
      induction l with
      | zero => rfl
      | succ l ih => simp only [sumN, ih]
    rw [h2] at h1
    omega
  · have hm : (v : Int) ∈ (List.range n).map fun i => ((f i : Nat) : Int) := List.count_pos_iff.1 (by omega)
    obtain ⟨i, hi, e⟩ := List.mem_map.1 hm
    exact ⟨i, List.mem_range.1 hi, by omega⟩
theorem stepOf_onto (n : Nat) (hn : 2 ≤ n) (hpr : ∀ d : Nat, 2 ≤ d → d < n → n % d ≠ 0) (o s : Int) (ho : 0 ≤ o) (hs1 : 1 ≤ s) (hs2 : s < n) (v : Nat) (hv : v < n) : ∃ i, i < n ∧ stepOf n (o, s) i = v := by
  obtain ⟨o, rfl⟩ := Int.eq_ofNat_of_zero_le ho
  obtain ⟨s, rfl⟩ := Int.eq_ofNat_of_zero_le (show 0 ≤ s by omega)
  have hst : ∀ i, stepOf n ((o : Int), (s : Int)) i = (o + i * s) % n := fun i => by
    unfold stepOf
    show (((o : Int) + (i : Int) * (s : Int)) % (n : Int)).toNat = _
    have : ((o : Int) + (i : Int) * (s : Int)) % (n : Int) = (((o + i * s) % n : Nat) : Int) := by simp
    rw [this]; rfl
  have hcop : Nat.Coprime n s := by
    have h1 : Nat.gcd n s ∣ n := Nat.gcd_dvd_left n s
    have h2 : Nat.gcd n s ≤ s := Nat.le_of_dvd (by omega) (Nat.gcd_dvd_right n s)
    have h3 : 0 < Nat.gcd n s := Nat.gcd_pos_of_pos_left _ (by omega)
    rcases Nat.lt_or_ge (Nat.gcd n s) 2 with h4 | h4
    · show Nat.gcd n s = 1; omega
    · exact absurd (Nat.mod_eq_zero_of_dvd h1) (hpr _ h4 (by omega))
  refine onto (stepOf n ((o : Int), (s : Int))) n ?_ (fun i _ => by rw [hst]; exact Nat.mod_lt _ (by omega)) v hv
  intro i j hij hj he
  rw [hst, hst] at he
  have h1 : n ∣ (o + j * s) - (o + i * s) := Nat.dvd_of_mod_eq_zero (Nat.sub_mod_eq_zero_of_mod_eq he.symm)
  have h2 : (o + j * s) - (o + i * s) = s * (j - i) := by
    rw [Nat.mul_sub, Nat.mul_comm s j, Nat.mul_comm s i]; omega
  rw [h2] at h1
  have h3 := Nat.le_of_dvd (by omega) (hcop.dvd_of_dvd_mul_left h1)
  omega
theorem freeF_some {S : List Int} (hpr : ∀ d : Nat, 2 ≤ d → d < S.length → S.length % d ≠ 0) (hn : 2 ≤ S.length) (o s : Int) (ho : 0 ≤ o) (hs1 : 1 ≤ s) (hs2 : s < S.length) (v : Nat) (hv : v < S.length) (hf : S.getD v 0 < 0) : ∃ k, freeF S (o, s) = some k ∧ k < S.length ∧ S.getD k 0 < 0 := by
  obtain ⟨i, hi, he⟩ := stepOf_onto S.length hn hpr o s ho hs1 hs2 v hv
  have h1 : (freeF S (o, s)).isSome := by
    unfold freeF
    rw [List.find?_isSome]
    exact ⟨v, List.mem_map.2 ⟨i, List.mem_range.2 hi, he⟩, by simpa using hf⟩
  obtain ⟨k, hk⟩ := Option.isSome_iff_exists.1 h1
  have h2 := List.find?_some hk
  have h3 := List.mem_of_find?_eq_some hk
  obtain ⟨j, -, rfl⟩ := List.mem_map.1 h3
  refine ⟨_, hk, ?_, by simpa using h2⟩
  unfold stepOf
  have := Int.emod_lt_of_pos ((o, s).1 + (j : Int) * (o, s).2) (show (0 : Int) < (S.length : Int) by omega)
  have := Int.emod_nonneg ((o, s).1 + (j : Int) * (o, s).2) (show (S.length : Int) ≠ 0 by omega)
  omega

def RowOK (l : Nat) (S : List Int) : Prop := ∀ x ∈ S, x = -1 ∨ ∃ i : Nat, i < l ∧ x = (i : Int)
theorem RowOK.free {l : Nat} {S : List Int} (h : RowOK l S) (hlt : sumN (fun i => S.count (i : Int)) l < S.length) : ∃ v, v < S.length ∧ S.getD v 0 < 0 := by
  by_cases hm : (-1 : Int) ∈ S
  · obtain ⟨v, hv, e⟩ := List.mem_iff_getElem.1 hm
    exact ⟨v, hv, by rw [List.getD_eq_getElem?_getD, List.getElem?_eq_getElem hv, e]; decide⟩
  · have := len_sum l S (fun x hx => (h x hx).resolve_left (fun e => hm (e ▸ hx)))
    omega
def WayOK (n : Nat) (y : Int × Int) : Prop := 0 ≤ y.1 ∧ 1 ≤ y.2 ∧ y.2 < n
theorem turn_count {W : List (Int × Int)} {l : Nat} {S : List Int} (hpr : ∀ d : Nat, 2 ≤ d → d < S.length → S.length % d ≠ 0) (hn : 2 ≤ S.length) (h : RowOK l S) (hlt : sumN (fun i => S.count (i : Int)) l < S.length) (i : Nat) (hi : i < l) (hW : WayOK S.length (W.getD i (0, 0))) :
    RowOK l (turnF W S i) ∧ ∀ j : Nat, (turnF W S i).count (j : Int) = S.count (j : Int) + if j = i then 1 else 0 := by
  obtain ⟨v, hv, hf⟩ := h.free hlt
  obtain ⟨k, hk, hkl, hk0⟩ := freeF_some hpr hn (W.getD i (0, 0)).1 (W.getD i (0, 0)).2 hW.1 hW.2.1 hW.2.2 v hv hf
  have ht : turnF W S i = S.set k i := by unfold turnF; rw [hk]
  have hSk : S[k] = -1 := by
    rw [List.getD_eq_getElem?_getD, List.getElem?_eq_getElem hkl] at hk0
    simp only [Option.getD_some] at hk0
    rcases h _ (List.getElem_mem hkl) with h1 | ⟨m, _, h1⟩
    · exact h1
    · omega
  rw [ht]
  constructor
  · intro x hx
    rcases List.mem_or_eq_of_mem_set hx with h1 | h1
    · exact h x h1
    · exact Or.inr ⟨i, hi, h1⟩
  · intro j
    rw [List.count_set hkl, hSk]
    have h1 : ((-1 : Int) == (j : Int)) = false := by rw [beq_eq_false_iff_ne]; omega
    rw [h1]
    by_cases hj : j = i
    · subst hj; simp
    · have h2 : ((i : Int) == (j : Int)) = false := by rw [beq_eq_false_iff_ne]; omega
      rw [h2]; simp [hj]
theorem roundTo_len' (W : List (Int × Int)) (sh : List Int) (r : Nat) (S : List Int) (n : Nat) : (roundTo W sh r S n).length = S.length := by
  induction n with
  | zero => rfl
  | succ n ih => simp only [roundTo]; split; exact ih; rw [turnF_len]; exact ih
theorem fillTo_len' (W : List (Int × Int)) (sh : List Int) (S : List Int) (n : Nat) : (fillTo W sh S n).length = S.length := by
  induction n with
  | zero => rfl
  | succ n ih => rw [fillTo, roundTo_len', ih]
def shN (sh : List Int) (i : Nat) : Nat := (sh.getD i 0).toNat
theorem round_count {W : List (Int × Int)} {sh : List Int} {n r : Nat} {S : List Int} (hS : S.length = n) (hpr : ∀ d : Nat, 2 ≤ d → d < n → n % d ≠ 0) (hn : 2 ≤ n) (hW : ∀ i, i < sh.length → WayOK n (W.getD i (0, 0))) (hsum : sumN (shN sh) sh.length = n) (h : RowOK sh.length S) (hc : ∀ j, j < sh.length → S.count (j : Int) = min (shN sh j) r) :
    ∀ m, m ≤ sh.length → RowOK sh.length (roundTo W sh r S m) ∧ ∀ j, j < sh.length → (roundTo W sh r S m).count (j : Int) = if j < m then min (shN sh j) (r + 1) else min (shN sh j) r := by
  intro m
  induction m with
  | zero => intro _; exact ⟨h, fun j hj => by rw [if_neg (by omega)]; exact hc j hj⟩
  | succ m ih =>
    intro hm
    obtain ⟨h1, h2⟩ := ih (by omega)
    have hlen : (roundTo W sh r S m).length = n := by rw [roundTo_len', hS]
    simp only [roundTo]
    split
    · rename_i hle
      refine ⟨h1, fun j hj => ?_⟩
      rw [h2 j hj]
      by_cases hjm : j = m
      · subst hjm
        rw [if_neg (by omega), if_pos (by omega)]
        have : shN sh j ≤ r := by unfold shN; omega
        omega
      · by_cases hj2 : j < m
        · rw [if_pos hj2, if_pos (by omega)]
        · rw [if_neg hj2, if_neg (by omega)]
    · rename_i hle
      have hlt : r < shN sh m := by unfold shN; omega
      have hs : sumN (fun i => (roundTo W sh r S m).count (i : Int)) sh.length < (roundTo W sh r S m).length := by
        rw [hlen, ← hsum]
        refine sumN_lt _ _ _ (fun i hi => ?_) m (by omega) ?_
        · show List.count _ _ ≤ _
          rw [h2 i hi]; split <;> omega
        · show List.count _ _ < _
          rw [h2 m (by omega), if_neg (by omega)]; omega
      obtain ⟨t1, t2⟩ := turn_count (W := W) (by rw [hlen]; exact hpr) (by rw [hlen]; exact hn) h1 hs m (by omega) (by rw [hlen]; exact hW m (by omega))
      refine ⟨t1, fun j hj => ?_⟩
      rw [t2 j, h2 j hj]
      by_cases hjm : j = m
      · subst hjm
        rw [if_neg (by omega), if_pos rfl, if_pos (by omega)]
        omega
      · rw [if_neg hjm]
        by_cases hj2 : j < m
        · rw [if_pos hj2, if_pos (by omega)]; omega
        · rw [if_neg hj2, if_neg (by omega)]; omega
theorem fill_count {W : List (Int × Int)} {sh : List Int} {n : Nat} (hpr : ∀ d : Nat, 2 ≤ d → d < n → n % d ≠ 0) (hn : 2 ≤ n) (hW : ∀ i, i < sh.length → WayOK n (W.getD i (0, 0))) (hsum : sumN (shN sh) sh.length = n) :
    ∀ r, RowOK sh.length (fillTo W sh (List.replicate n (-1)) r) ∧ ∀ j, j < sh.length → (fillTo W sh (List.replicate n (-1)) r).count (j : Int) = min (shN sh j) r := by
  intro r
  induction r with
  | zero =>
    refine ⟨fun x hx => Or.inl (List.eq_of_mem_replicate hx), fun j hj => ?_⟩
    rw [fillTo, List.count_eq_zero.2]
    · omega
    · intro hm
      have := List.eq_of_mem_replicate hm
      omega
  | succ r ih =>
    have := round_count (by rw [fillTo_len', List.length_replicate]) hpr hn hW hsum ih.1 ih.2 sh.length (Nat.le_refl _)
    refine ⟨this.1, fun j hj => ?_⟩
    rw [fillTo, this.2 j hj, if_pos hj]
theorem sumN_part (f : Nat → Nat) (l k : Nat) (hk : k < l) : f k ≤ sumN f l := by
  induction l with
  | zero => omega
  | succ l ih =>
    simp only [sumN]
    by_cases h : k = l
    · subst h; omega
    · have := ih (by omega); omega
theorem fill_all {W : List (Int × Int)} {sh : List Int} {n : Nat} (hpr : ∀ d : Nat, 2 ≤ d → d < n → n % d ≠ 0) (hn : 2 ≤ n) (hW : ∀ i, i < sh.length → WayOK n (W.getD i (0, 0))) (hsum : sumN (shN sh) sh.length = n) :
    RowOK sh.length (fillTo W sh (List.replicate n (-1)) n) ∧ ∀ j, j < sh.length → (fillTo W sh (List.replicate n (-1)) n).count (j : Int) = shN sh j := by
  obtain ⟨h1, h2⟩ := fill_count hpr hn hW hsum n
  refine ⟨h1, fun j hj => ?_⟩
  rw [h2 j hj]
  have := sumN_part (shN sh) sh.length j hj
  omega

theorem bestTo_spec (R : List Int) (n : Nat) : ((bestTo R n).2 = -1 ∨ ((0 ≤ (bestTo R n).1 ∧ (bestTo R n).1 < n) ∧ R.getD (bestTo R n).1.toNat 0 = (bestTo R n).2)) ∧ -1 ≤ (bestTo R n).2 ∧ ∀ j, j < n → R.getD j 0 ≤ (bestTo R n).2 := by
  induction n with
  | zero => exact ⟨Or.inl rfl, Int.le_refl (-1), fun j hj => by omega⟩
  | succ n ih =>
    obtain ⟨h1, h2, h3⟩ := ih
    simp only [bestTo]
    split
    · rename_i hlt
      refine ⟨Or.inr ⟨⟨by simp only; omega, by simp only; omega⟩, by simp⟩, by simp only; omega, fun j hj => ?_⟩
      show R.getD j 0 ≤ R.getD n 0
      by_cases hjn : j = n
      · subst hjn; exact Int.le_refl _
      · have := h3 j (by omega); omega
    · rename_i hlt
      refine ⟨h1.imp id (fun h => ⟨⟨h.1.1, by omega⟩, h.2⟩), h2, fun j hj => ?_⟩
      by_cases hjn : j = n
      · subst hjn; omega
      · exact h3 j (by omega)
theorem bestF_pos {R : List Int} (h : 0 < R.countP fun x => decide (0 < x)) : 0 ≤ bestF R ∧ (bestF R).toNat < R.length ∧ 0 < R.getD (bestF R).toNat 0 := by
  obtain ⟨h1, h2, h3⟩ := bestTo_spec R R.length
  obtain ⟨x, hx, hx0⟩ := List.countP_pos_iff.1 h
  obtain ⟨j, hj, e⟩ := List.mem_iff_getElem.1 hx
  have h4 := h3 j hj
  rw [List.getD_eq_getElem?_getD, List.getElem?_eq_getElem hj, e] at h4
  simp only [Option.getD_some] at h4
  have h5 : 0 < x := by simpa using hx0
  rcases h1 with h1 | ⟨⟨h6, h7⟩, h8⟩
  · omega
  · unfold bestF
    exact ⟨h6, by omega, by omega⟩
theorem sum_set (v : Int) : ∀ (s : List Int) (k : Nat), k < s.length → (s.set k v).sum = s.sum - s.getD k 0 + v
  | [], k, h => by simp at h
  | x :: s, 0, _ => by simp; omega
  | x :: s, k + 1, h => by
    have := sum_set v s k (by simpa using h)
    simp only [List.set_cons_succ, List.sum_cons, List.getD_cons_succ, this]
    omega
theorem getD_set (s : List Int) (k j : Nat) (v : Int) (hk : k < s.length) : (s.set k v).getD j 0 = if j = k then v else s.getD j 0 := by
  rw [List.getD_eq_getElem?_getD, List.getD_eq_getElem?_getD, List.getElem?_set]
  by_cases h : j = k
  · subst h; simp [hk]
  · rw [if_neg (fun e => h e.symm), if_neg h]
theorem giveF_spec : ∀ (k : Nat) (s r : List Int), s.length = r.length → k ≤ r.countP (fun x => decide (0 < x)) →
    (giveF k s r).sum = s.sum + k ∧ (giveF k s r).length = s.length ∧ ∀ j, j < s.length → (giveF k s r).getD j 0 = s.getD j 0 ∨ ((giveF k s r).getD j 0 = s.getD j 0 + 1 ∧ 0 < r.getD j 0)
  | 0, s, r, _, _ => ⟨by simp [giveF], rfl, fun j _ => Or.inl rfl⟩
  | k + 1, s, r, hl, hk => by
    obtain ⟨h1, h2, h3⟩ := bestF_pos (R := r) (by omega)
    rw [giveF, if_neg (by omega)]
    generalize (bestF r).toNat = b at h2 h3
    have hb : b < s.length := by omega
    have hr : r[b] = r.getD b 0 := by rw [List.getD_eq_getElem?_getD, List.getElem?_eq_getElem h2]; rfl
    have hcp : (r.set b (-1)).countP (fun x => decide (0 < x)) = r.countP (fun x => decide (0 < x)) - 1 := by
      have h4 : decide (0 < r.getD b 0) = true := decide_eq_true h3
      rw [List.countP_set h2, hr, h4]
      simp
    obtain ⟨g1, g2, g3⟩ := giveF_spec k (s.set b (s.getD b 0 + 1)) (r.set b (-1)) (by simp [hl]) (by rw [hcp]; omega)
    refine ⟨?_, by rw [g2]; simp, fun j hj => ?_⟩
    · rw [g1, sum_set _ _ _ hb]; push_cast; omega
    · have g4 := g3 j (by simpa using hj)
      rw [getD_set _ _ _ _ hb, getD_set _ _ _ _ h2] at g4
      by_cases hjb : j = b
      · subst hjb
        rw [if_pos rfl, if_pos rfl] at g4
        rcases g4 with g4 | ⟨_, g5⟩
        · exact Or.inr ⟨g4, h3⟩
        · omega
      · rw [if_neg hjb, if_neg hjb] at g4
        exact g4
theorem low_rem (M W : Int) : ∀ B : List BK, (B.map fun b => M * b.2).sum = W * (B.map fun b => M * b.2 / W).sum + (B.map fun b => M * b.2 % W).sum
  | [] => by simp
  | b :: B => by
    have h1 := low_rem M W B
    have h2 := Int.mul_ediv_add_emod (M * b.2) W
    simp only [List.map_cons, List.sum_cons, h1, Int.mul_add]
    omega
theorem sum_mulc (M : Int) : ∀ B : List BK, (B.map fun b => M * b.2).sum = M * (B.map (·.2)).sum
  | [] => by simp
  | b :: B => by simp only [List.map_cons, List.sum_cons, sum_mulc M B, Int.mul_add]
theorem rem_le (W : Int) : ∀ R : List Int, (∀ x ∈ R, 0 ≤ x ∧ x < W) → 0 ≤ R.sum ∧ R.sum ≤ W * (R.countP fun x => decide (0 < x))
  | [], _ => by simp
  | x :: R, h => by
    obtain ⟨h1, h2⟩ := rem_le W R (fun y hy => h y (List.mem_cons_of_mem _ hy))
    obtain ⟨h3, h4⟩ := h x List.mem_cons_self
    rw [List.sum_cons, List.countP_cons]
    refine ⟨by omega, ?_⟩
    by_cases hx : 0 < x
    · simp only [hx, decide_true, if_true]
      push_cast
      rw [Int.mul_add]; omega
    · simp only [hx, decide_false]
      simp
      omega
theorem shares_spec (M : Int) (B : List BK) (hM : 0 ≤ M) (hw : ∀ b ∈ B, 0 ≤ b.2) (hW : 1 ≤ wSum B) :
    (sharesF M B).sum = M ∧ (sharesF M B).length = B.length ∧ ∀ j, j < B.length → 0 ≤ (sharesF M B).getD j 0 ∧ ((sharesF M B).getD j 0 = (lowF M B).getD j 0 ∨ ((sharesF M B).getD j 0 = (lowF M B).getD j 0 + 1 ∧ 0 < (remF M B).getD j 0)) := by
  have e1 := low_rem M (wSum B) B
  rw [sum_mulc] at e1
  have e2 := rem_le (wSum B) (remF M B) (by
    intro x hx
    obtain ⟨b, hb, rfl⟩ := List.mem_map.1 hx
    exact ⟨Int.emod_nonneg _ (by omega), Int.emod_lt_of_pos _ (by omega)⟩)
  have e3 : M * wSum B = wSum B * (lowF M B).sum + (remF M B).sum := e1
  have e4 : wSum B * (M - (lowF M B).sum) = (remF M B).sum := by rw [Int.mul_sub, Int.mul_comm (wSum B) M]; omega
  have e5 : 0 ≤ M - (lowF M B).sum := by
    rcases Int.lt_or_le (M - (lowF M B).sum) 0 with h | h
    · have := Int.mul_neg_of_pos_of_neg (show 0 < wSum B by omega) h
      omega
    · exact h
  have e6 : M - (lowF M B).sum ≤ ((remF M B).countP fun x => decide (0 < x) : Nat) := by
    refine Int.le_of_mul_le_mul_left (a := wSum B) ?_ (by omega)
    omega
  have g := giveF_spec (M - (lowF M B).sum).toNat (lowF M B) (remF M B) (by simp [lowF, remF]) (by omega)
  have hs : sharesF M B = giveF (M - (lowF M B).sum).toNat (lowF M B) (remF M B) := by unfold sharesF; rw [if_neg (by omega)]
  rw [hs]
  refine ⟨by rw [g.1]; omega, by rw [g.2.1]; simp [lowF], fun j hj => ?_⟩
  have h1 := g.2.2 j (by simpa [lowF] using hj)
  have h2 : 0 ≤ (lowF M B).getD j 0 := by
    unfold lowF
    rw [List.getD_eq_getElem?_getD, List.getElem?_map, List.getElem?_eq_getElem hj]
    exact Int.ediv_nonneg (Int.mul_nonneg hM (hw _ (List.getElem_mem hj))) (by omega)
  exact ⟨by omega, h1⟩
theorem sumN_list : ∀ (l : Nat) (L : List Int), l = L.length → (∀ j, j < L.length → 0 ≤ L.getD j 0) → ((sumN (shN L) l : Nat) : Int) = L.sum := by
  intro l
  induction l with
  | zero =>
    intro L hl _
    have : L = [] := List.length_eq_zero_iff.1 hl.symm
    subst this; rfl
  | succ l ih =>
    intro L hl h
    have hne : L ≠ [] := fun e => by subst e; simp at hl
    have hL := List.dropLast_concat_getLast hne
    have hlen : L.dropLast.length = l := by simp; omega
    have hget : ∀ j, j < l → L.getD j 0 = L.dropLast.getD j 0 := fun j hj => by
      conv => lhs; rw [← hL]
      rw [List.getD_eq_getElem?_getD, List.getElem?_append_left (by omega), List.getD_eq_getElem?_getD]
    have hlast : L.getD l 0 = L.getLast hne := by
      conv => lhs; rw [← hL]
      rw [List.getD_eq_getElem?_getD, List.getElem?_append_right (by omega), hlen]
      simp
    have hsum : L.sum = L.dropLast.sum + L.getLast hne := by
      conv => lhs; rw [← hL]
      simp
    have h0 := ih L.dropLast hlen.symm (fun j hj => by rw [← hget j (by omega)]; exact h j (by omega))
    simp only [sumN]
    rw [sumN_congr (shN L) (shN L.dropLast) l (fun i hi => by unfold shN; rw [hget i hi])]
    have h1 := h l (by omega)
    have h2 : shN L l = (L.getD l 0).toNat := rfl
    rw [hsum, ← h0, ← hlast, h2]
    push_cast
    omega

end Go.Proofs.YtpapdkhjdelfcabGreat
