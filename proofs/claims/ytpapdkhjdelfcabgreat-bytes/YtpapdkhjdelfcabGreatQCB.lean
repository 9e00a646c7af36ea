import Derived.Test.YtpapdkhjdelfcabGreatQCA
import Derived.Test.YtpapdkhjdelfcabGreatQBO
import Derived.Test.YtpapdkhjdelfcabGreatQBZ
import Derived.Test.YtpapdkhjdelfcabGreatQBX
namespace Go.Proofs.YtpapdkhjdelfcabGreat
open Go.RowKit

theorem lawPool_mem1 {id : ByteArray} {n : Int} {b : BK} : ∀ {B : List BK} {put : Bool}, b ∈ lawPool id n put B → (b ∈ B ∧ b.1 ≠ id) ∨ (put = false ∧ b = (id, n))
  | [], put, h => by
    rw [lawPool] at h
    split at h
    · cases h
    · rename_i hp
      exact Or.inr ⟨by simpa using hp, by simpa using h⟩
  | x :: B, put, h => by
    rw [lawPool, List.mem_append, List.mem_append] at h
    rcases h with (h | h) | h
    · split at h
      · rename_i hc
        exact Or.inr ⟨hc.1, by simpa using h⟩
      · cases h
    · split at h
      · rename_i hc
        have : b = x := by simpa using h
        subst this
        exact Or.inl ⟨List.mem_cons_self, hc⟩
      · cases h
    · rcases lawPool_mem1 h with ⟨h1, h2⟩ | ⟨h1, h2⟩
      · exact Or.inl ⟨List.mem_cons_of_mem _ h1, h2⟩
      · refine Or.inr ⟨?_, h2⟩
        split at h1
        · cases h1
        · exact h1
theorem lawPool_mem2 {id : ByteArray} {n : Int} {b : BK} (hb : b.1 ≠ id) : ∀ {B : List BK} {put : Bool}, b ∈ B → b ∈ lawPool id n put B
  | [], _, h => by cases h
  | x :: B, put, h => by
    rw [lawPool, List.mem_append, List.mem_append]
    rcases List.mem_cons.1 h with rfl | h
    · exact Or.inl (Or.inr (by rw [if_pos hb]; exact List.mem_singleton.2 rfl))
    · exact Or.inr (lawPool_mem2 hb h)
theorem lawPool_mem3 {id : ByteArray} {n : Int} : ∀ {B : List BK}, (id, n) ∈ lawPool id n false B
  | [] => by rw [lawPool]; simp
  | x :: B => by
    rw [lawPool, List.mem_append, List.mem_append]
    by_cases hl : less x.1 id = false
    · exact Or.inl (Or.inl (by rw [if_pos ⟨rfl, hl⟩]; exact List.mem_singleton.2 rfl))
    · refine Or.inr ?_
      rw [if_neg hl]
      exact lawPool_mem3
theorem weightF_of {B : List BK} (hs : Srt B) {b : BK} (hb : b ∈ B) : weightF B b.1 = b.2 := by
  obtain ⟨i, hi, rfl⟩ := List.mem_iff_getElem.1 hb
  rw [weightF, atName_at hs hi, List.getElem?_eq_getElem hi]
theorem weightF_mem {B : List BK} {id : ByteArray} (h : 0 ≤ weightF B id) : (id, weightF B id) ∈ B := by
  unfold weightF at h ⊢
  by_cases hl : atName id B < B.length
  · rw [List.getElem?_eq_getElem hl]
    have h1 := List.findIdx_getElem (xs := B) (p := fun b : BK => b.1.toList == id.toList) (w := hl)
    have h2 : B[atName id B].1 = id := str_eq.1 h1
    show (id, B[atName id B].2) ∈ B
    have : (id, B[atName id B].2) = B[atName id B] := Prod.ext h2.symm rfl
    rw [this]
    exact List.getElem_mem hl
  · rw [List.getElem?_eq_none (by omega)] at h
    exact absurd h (by decide)
theorem mvAll : MvAll := by
  intro c B g id was now hc hB hB' ha hwas hwn hn1 hn6 hg hg0 k _
  have e1 : (localF c B g (keyF k)).1 = (ownerF c B (keyF k)).1 := by
    unfold localF
    split
    · rename_i h0
      rw [hg h0]
      exact (own_none (by simp [wSum])).symm
    · rfl
  have e2 : (localF c (lawPool id now (decide (now < 0)) B) (g + 1) (keyF k)).1 = (ownerF c (lawPool id now (decide (now < 0)) B) (keyF k)).1 := by
    unfold localF; rw [if_neg (by omega)]
  rw [e1, e2]
  have hal : c.alg = 2 ∨ c.alg = 3 ∨ c.alg = 4 := by have := hc.1; have := hc.2.1; omega
  have hsl : 1 ≤ c.slots := by have := hc.2.2.1; omega
  have hpt : 1 ≤ c.points := hc.2.2.2.2.2.1
  have hpr : 1 ≤ c.probes ∧ c.probes ≤ 5 := ⟨hc.2.2.2.2.2.2.2.1, hc.2.2.2.2.2.2.2.2.1⟩
  have hw : ∀ b ∈ B, 0 ≤ b.2 := fun b hb => (hB.1.2 b hb).2.2.1
  have hw' : ∀ b ∈ lawPool id now (decide (now < 0)) B, 0 ≤ b.2 := fun b hb => (hB'.1.2 b hb).2.2.1
  rcases Int.lt_trichotomy was now with h | h | h
  · have hd : decide (now < 0) = false := decide_eq_false (by
      have : -1 ≤ was := by
        rw [hwas]
        unfold weightF
        split
        · rename_i b hb
          have := hw b (List.mem_of_getElem? hb)
          omega
        · omega
      omega)
    rw [hd] at hB' hw' ⊢
    rcases own_mono (k := keyF k) (id := id) hal hsl hpt hpr hB.2 hB'.2 hw hw' (fun b hb => by
      by_cases hid : b.1 = id
      · subst hid
        have := weightF_of hB.2 hb
        exact ⟨(b.1, now), lawPool_mem3, rfl, by simp only; omega⟩
      · exact ⟨b, lawPool_mem2 hid hb, rfl, Int.le_refl _⟩) (fun b hb hid => by
      rcases lawPool_mem1 hb with ⟨h1, _⟩ | ⟨_, h1⟩
      · exact h1
      · exact absurd (by rw [h1]) hid) with e | e
    · exact Or.inl e
    · exact Or.inr (by
        rintro (⟨_, h1⟩ | ⟨h1, _⟩ | h1)
        · exact h1 e
        · omega
        · omega)
  · left
    have hw0 : 0 ≤ weightF B id := by omega
    have hd : decide (now < 0) = false := decide_eq_false (by omega)
    rw [hd]
    obtain ⟨p, hp, he⟩ := List.mem_iff_getElem.1 (weightF_mem hw0)
    have : lawPool id now false B = B := by
      rw [lawPool_set hB.2 hp (by rw [he])]
      rw [show (id, now) = B[p] by rw [he, ← hwas, h]]
      exact List.set_getElem_self hp
    rw [this]
  · have hw0 : 0 ≤ weightF B id := by omega
    rcases own_mono (k := keyF k) (id := id) hal hsl hpt hpr hB'.2 hB.2 hw' hw (fun b hb => by
      rcases lawPool_mem1 hb with ⟨h1, h2⟩ | ⟨_, h1⟩
      · exact ⟨b, h1, rfl, Int.le_refl _⟩
      · subst h1
        exact ⟨_, weightF_mem hw0, rfl, by simp only; omega⟩) (fun b hb hid => lawPool_mem2 hid hb) with e | e
    · exact Or.inl e.symm
    · exact Or.inr (by
        rintro (⟨h1, _⟩ | ⟨_, h1⟩ | h1)
        · omega
        · exact h1 e
        · omega)

end Go.Proofs.YtpapdkhjdelfcabGreat

namespace Go.Proofs.YtpapdkhjdelfcabGreat
open Go.RowKit

theorem and_held {held part : Int} (hh : held = 1 ∨ held = 4 ∨ held = 16 ∨ held = 32 ∨ held = 64 ∨ held = 128) (hp : FS part) : bits BinOp.and IntKind.i64 held part = 0 := by
  rcases hp with (⟨_, h⟩ | ⟨_, h⟩) | hp
  · exact absurd shAll h
  · exact absurd mvAll h
  · rcases hh with rfl | rfl | rfl | rfl | rfl | rfl <;> rcases hp with rfl | rfl <;> decide

theorem cfgZ_ok (x : ByteArray) (hx : x.size = 16) : Cfg.OK ⟨1, 13, 2, 3, x, 3⟩ := by
  refine ⟨by simp, by simp, by simp, by simp, ?_, by simp, by simp, by simp, by simp, hx, by simp, by simp⟩
  intro d h1 h2
  have hd : d < 13 := by simp only at h2; omega
  rcases (show d = 2 ∨ d = 3 ∨ d = 4 ∨ d = 5 ∨ d = 6 ∨ d = 7 ∨ d = 8 ∨ d = 9 ∨ d = 10 ∨ d = 11 ∨ d = 12 by omega) with rfl | rfl | rfl | rfl | rfl | rfl | rfl | rfl | rfl | rfl | rfl <;> simp

theorem WAt.new (w : World) (cs : Array Value) (t : TypeId) (hc : cs.size ≤ 100) : WAt w.heap.size cs.toList (w.alloc (.cells cs t)) := by
  have h := World.ownsRow_lit (base := w.heap.size) (e := t) w cs cs.size (Nat.le_refl _) (by unfold maxLen; omega) (Nat.mul_one _).symm
  refine ⟨fun o u hu => ?_, fun o ho => World.ownsRow.frozenAt h o⟩
  have hl := (List.getElem?_eq_some_iff.1 hu).1
  exact (World.ownsRow.cellAt h o (by simpa using hl)).trans hu
theorem box_is (w : World) (x : ByteArray) (t : TypeId) : WAt w.heap.size (wl0 0 ⟨1, 13, 2, 3, x, 3⟩ [.pointer none, .int .i64 0, .int .i64 0, .int .i64 0, .int .i64 0, .string ⟨#[]⟩, .int .i64 0, .slice none 0 0, .slice none 0 0, .slice none 0 0, .slice none 0 0, .slice none 0 0, .string ⟨#[]⟩])
    (w.alloc (.cells #[.int .i64 0, .int .i64 1, .int .i64 13, .int .i64 2, .int .i64 3, .string x, .int .i64 3, .pointer none, .int .i64 0, .int .i64 0, .int .i64 0, .int .i64 0, .string ⟨#[]⟩, .int .i64 0, .slice none 0 0, .slice none 0 0, .slice none 0 0, .slice none 0 0, .slice none 0 0, .string ⟨#[]⟩] t)) :=
  WAt.new w #[.int .i64 0, .int .i64 1, .int .i64 13, .int .i64 2, .int .i64 3, .string x, .int .i64 3, .pointer none, .int .i64 0, .int .i64 0, .int .i64 0, .int .i64 0, .string ⟨#[]⟩, .int .i64 0, .slice none 0 0, .slice none 0 0, .slice none 0 0, .slice none 0 0, .slice none 0 0, .string ⟨#[]⟩] t (by simp)

def RUpTo (w : World) (e : Ending) (w' : World) : Prop := e = .returned (.int .i64 (-1)) ∧ Bel w w'

set_option maxRecDepth 100000 in
set_option maxHeartbeats 1000000 in
theorem upto_is (a : Option Addr) (len cap : Nat) (held : Int) (w : World) (h : IsOps w a len) (hl : len ≤ 65536) (hh : held = 1 ∨ held = 4 ∨ held = 16 ∨ held = 32 ∨ held = 64 ∨ held = 128) :
    Calls Tryz.prog 22 #[.slice a len cap, .int .i64 held] w (RUpTo w) := by
  have hfi := fun wx => fill_is ByteArray.empty 16 wx (by omega) (by omega)
  have HI := Hid.mk h
  have HA : Hid (∀ part, FS part → bits BinOp.and IntKind.i64 held part = 0) := fun part hp => and_held hh hp
  clear h hh
  go_enter Tryz.func22, Tryz.ntmps22
  go_wp2_with fail
  refine (hfi _).mono ?_
  rintro e w1 ⟨x, rfl, hb1, hx⟩
  clear hfi
  go_wp2_with fail
  refine (kbegin_is w w1.heap.size 0 0 ⟨1, 13, 2, 3, x, 3⟩ _ _ _ _ _ _ _ _ _ _ _ _ _ _ (box_is w1 x _) (cfgZ_ok x hx) (hb1.step_alloc _) hb1.size).mono ?_
  rintro e w2 ⟨rfl, k0, hk0, hR0⟩
  generalize w1.heap.size = p at hk0
  have HK0 := Hid.mk hk0
  clear hk0 hx hb1
  go_wp2
  go_loopg [7, 8] len (fun r nok ni wr => ∃ j : Nat, nok = .bool true ∧ ni = .int .i64 (j : Int) ∧ j ≤ len ∧ r = len - j ∧ ∃ k, KInv w p j k wr ∧ k.Rdy j)
  case atStart => exact ⟨0, rfl, rfl, by omega, by omega, k0, HK0.out, hR0⟩
  case round =>
    obtain ⟨j, rfl, rfl, hj, rfl, k, hk, hR⟩ := hrel
    by_cases hjl : j < len
    · obtain ⟨kd, xa, xb, xc, S, ⟨ab, ao, rfl, q0, q1, q2, q3, q4⟩, -, ia, ib, ic, hS⟩ := HI.out.2 j hjl
      have hbel : Bel w wr := hk.bel
      have r0 := hbel.cell q0
      have r1 := hbel.cell q1
      have r2 := hbel.cell q2
      have r3 := hbel.cell q3
      have r4 := hbel.cell q4
      have hst := step_all w p j k kd xa xb xc S wr hk hR (by omega) ia ib ic (Nat.le_trans hS (by decide))
      have hj1 : decide ((j : Int) < (len : Int)) = true := decide_eq_true (by omega)
      clear hk q0 q1 q2 q3 q4 hS ia ib ic hR
      unfold opV at hst
      go_wp2_with fail
      refine hst.mono ?_
      intro e w3 hr
      clear hst
      rcases hr with ⟨rfl, k2, hk2, hR2⟩ | ⟨rfl, hb3, part, hF, hcell⟩
      · have HK2 := Hid.mk hk2
        clear hk2
        go_wp2
        go_roundg (len - (j + 1))
        case measure => omega
        case rel => exact ⟨j + 1, rfl, by go_num, by omega, rfl, k2, HK2.out, hR2⟩
      · have hand := HA.out part hF
        clear hF
        go_wp2
        go_ret
        exact ⟨rfl, hb3⟩
    · have hj1 : decide ((j : Int) < (len : Int)) = false := decide_eq_false (by omega)
      have HB : Hid (Bel w wr) := hk.bel
      clear hk
      go_wp2
      go_ret
      exact ⟨rfl, HB.out⟩

end Go.Proofs.YtpapdkhjdelfcabGreat

namespace Go.Proofs.YtpapdkhjdelfcabGreat
open Go.RowKit

/-- the document's first example -/
def cfgA : Cfg := ⟨1, 7, 1, 1, ⟨#[48, 49, 50, 51, 52, 53, 54, 55, 56, 57, 97, 98, 99, 100, 101, 102]⟩, 3⟩
def nA : ByteArray := ⟨#[97]⟩
def nB : ByteArray := ⟨#[98]⟩
theorem cfgA_ok : cfgA.OK := by
  refine ⟨by decide, by decide, by decide, by decide, ?_, by decide, by decide, by decide, by decide, by decide, by decide, by decide⟩
  intro d h1 h2
  have hd : d < 7 := by simp only [cfgA] at h2; omega
  rcases (show d = 2 ∨ d = 3 ∨ d = 4 ∨ d = 5 ∨ d = 6 by omega) with rfl | rfl | rfl | rfl | rfl <;> decide
theorem alive_mag : maglevF cfgA [(nA, 1), (nB, 1)] = [0, 1, 0, 0, 0, 1, 1] := by decide +kernel
theorem alive_mk : mkF cfgA [(nA, 1), (nB, 1)] = [(0, 0), (0, 1), (0, 0), (0, 0), (0, 0), (0, 1), (0, 1)] := by
  rw [mkF, if_neg (by decide), if_pos (show cfgA.alg = 1 from rfl), alive_mag]; rfl
theorem alive_names : namesF [(nA, 1), (nB, 1)] (mkF cfgA [(nA, 1), (nB, 1)]) = [nA, nB, nA, nA, nA, nB, nB] := by rw [alive_mk]; rfl
theorem alive_add1 : addE [] nB 1 = 0 ∧ addB [] nB 1 = [(nB, 1)] := ⟨by decide +kernel, rfl⟩
theorem alive_add2 : addE [(nB, 1)] nA 1 = 0 ∧ addB [(nB, 1)] nA 1 = [(nA, 1), (nB, 1)] := by
  have he : addE [(nB, 1)] nA 1 = 0 := by decide +kernel
  refine ⟨he, ?_⟩
  unfold addB
  rw [if_pos he]
  have hl : less nA nB = true := by decide +kernel
  simp [ins, hl]

set_option maxRecDepth 100000 in
set_option maxHeartbeats 1600000 in
theorem alive_is (w : World) : Calls Tryz.prog 20 #[] w (RBool w fun x => x = true) := by
  have hnw := fun wx => new_is cfgA wx cfgA_ok
  rw [show cfgA.cells = #[.int .i64 1, .int .i64 7, .int .i64 1, .int .i64 1, .string ⟨#[48, 49, 50, 51, 52, 53, 54, 55, 56, 57, 97, 98, 99, 100, 101, 102]⟩, .int .i64 3] from rfl] at hnw
  go_enter Tryz.func20, Tryz.ntmps20
  go_wp2_with fail
  refine (hnw _).mono ?_
  rintro e w1 ⟨q, rfl, hb1, hq1, hq2, hS1⟩
  have hS1 := hS1 [q] (by simp)
  have hb01 : Bel w w1 := (Bel.step_alloc (Bel.refl w) _).trans hb1
  have hqw : w.heap.size ≤ q := by simp at hq1; omega
  have ha1 := add_is [q] q cfgA [] 0 nB 1 w1 hS1 (by simpa using hq2) cfgA_ok Good.nil (by omega) (by omega)
  rw [alive_add1.1, alive_add1.2] at ha1
  simp only [if_true, nB] at ha1
  clear hnw
  go_wp2_with fail
  refine ha1.mono ?_
  rintro e w2 ⟨rfl, hbt2, hS2⟩
  have hG1 : Good [(nB, (1 : Int))] := by have := Good.nil.add nB 1; rwa [alive_add1.2] at this
  have ha2 := add_is [q] q cfgA [(nB, 1)] (0 + 1) nA 1 w2 hS2 (by simpa using hS2.lt) cfgA_ok hG1 (by omega) (by omega)
  rw [alive_add2.1, alive_add2.2] at ha2
  simp only [if_true] at ha2
  rw [show nA = ⟨#[97]⟩ from rfl] at ha2
  clear ha1
  go_wp2_with fail
  refine ha2.mono ?_
  rintro e w3 ⟨rfl, hbt3, hS3⟩
  have hG2 : Good [(nA, (1 : Int)), (nB, 1)] := by have := hG1.add nA 1; rwa [alive_add2.2] at this
  have hsl := slots_is [q] q cfgA [(nA, 1), (nB, 1)] (0 + 1 + 1) w3 hS3 (mkF_len cfgA _ cfgA_ok hG2.1)
  rw [alive_names] at hsl
  have hb03 : Bel w w3 := But.belTo (But.belTo hb01 hbt2 (by simpa using hqw)) hbt3 (by simpa using hqw)
  clear ha2 hS1 hS2 hS3 hG1 hG2 hbt2 hbt3
  go_wp2_with fail
  refine hsl.mono ?_
  rintro e w4 ⟨vL, rfl, hb4, hO, -⟩
  obtain ⟨g, cap, hv, hg1, hg2⟩ := World.ownsRow.form hO (by simp)
  subst hv
  have hcl := fun j u (hj : ([nA, nB, nA, nA, nA, nB, nB].map Value.string)[j]? = some u) => World.ownsRow.cells hO (g := g) rfl j u hj
  have hadd : ∀ j, (⟨g, 0, none⟩ : Addr).add j = ⟨g, j, none⟩ := fun j => by unfold Addr.add; split <;> simp_all
  have y0 := hcl 0 _ rfl
  have y1 := hcl 1 _ rfl
  have y2 := hcl 2 _ rfl
  have y3 := hcl 3 _ rfl
  have y4 := hcl 4 _ rfl
  have y5 := hcl 5 _ rfl
  have y6 := hcl 6 _ rfl
  rw [hadd] at y0 y1 y2 y3 y4 y5 y6
  simp only [nA, nB] at y0 y1 y2 y3 y4 y5 y6
  clear hcl hadd hsl hO
  go_wp2
  refine wp_loop_rounds 8 ?_
  rw [rounds_succ]
  go_wp2
  rw [rounds_succ]
  go_wp2
  rw [rounds_succ]
  go_wp2
  rw [rounds_succ]
  go_wp2
  rw [rounds_succ]
  go_wp2
  rw [rounds_succ]
  go_wp2
  rw [rounds_succ]
  go_wp2
  rw [rounds_succ]
  go_wp2
  go_ret
  exact ⟨_, rfl, hb03.trans hb4, by decide +kernel⟩

end Go.Proofs.YtpapdkhjdelfcabGreat

namespace Go.Proofs.YtpapdkhjdelfcabGreat
open Go.RowKit

theorem and_14 {held : Int} (hh : held = 1 ∨ held = 16 ∨ held = 32 ∨ held = 64 ∨ held = 128) : bits BinOp.and IntKind.i64 held 14 = 0 := by
  rcases hh with rfl | rfl | rfl | rfl | rfl <;> decide

set_option maxRecDepth 100000 in
set_option maxHeartbeats 400000 in
theorem plays_is (a : Option Addr) (len cap : Nat) (held : Int) (w : World) (h : IsOps w a len) (hh : held = 1 ∨ held = 16 ∨ held = 32 ∨ held = 64 ∨ held = 128) :
    Calls Tryz.prog 15 #[.slice a len cap, .int .i64 held] w (RBool w fun x => x = true) := by
  have hsm := small_is a len cap w h
  have hup := fun wx (b : Bel w wx) (hl : len ≤ 65536) => upto_is a len cap held wx ⟨h.1, fun i hi => by
    obtain ⟨kd, x, y, z, S, ⟨bb, o, e, q0, q1, q2, q3, q4⟩, r⟩ := h.2 i hi
    exact ⟨kd, x, y, z, S, ⟨bb, o, e, b.cell q0, b.cell q1, b.cell q2, b.cell q3, b.cell q4⟩, r⟩⟩ hl (by omega)
  have h14 := and_14 hh
  clear h hh
  go_enter Tryz.func15, Tryz.ntmps15
  go_wp2_with fail
  refine hsm.mono ?_
  rintro e w1 ⟨x, rfl, rfl, hx⟩
  clear hsm
  cases x
  · clear hup
    go_wp2
    go_ret
    exact ⟨_, rfl, Bel.refl _, rfl⟩
  · have hl := hx rfl
    clear hx
    go_wp2_with fail
    refine (alive_is _).mono ?_
    rintro e w2 ⟨y, rfl, hb2, rfl⟩
    have hup2 := hup w2 hb2 hl
    clear hup
    go_wp2_with fail
    refine hup2.mono ?_
    rintro e w3 ⟨rfl, hb3⟩
    have hb := hb2.trans hb3
    clear hup2
    go_wp2
    go_ret
    exact ⟨_, rfl, hb, rfl⟩

theorem lawSame_is (a : Option Addr) (len cap : Nat) (w : World) (h : IsOps w a len) :
    Calls Tryz.prog 8 #[.slice a len cap] w (RBool w fun x => x = true) := by
  have hpl := plays_is a len cap 64 w h (by omega)
  clear h
  go_enter Tryz.func8, Tryz.ntmps8
  go_wp2_with fail
  refine hpl.mono ?_
  rintro e w1 ⟨x, rfl, hb, rfl⟩
  go_wp2
  go_ret
  exact ⟨_, rfl, hb, rfl⟩
theorem lawShares_is (a : Option Addr) (len cap : Nat) (w : World) (h : IsOps w a len) :
    Calls Tryz.prog 6 #[.slice a len cap] w (RBool w fun x => x = true) := by
  have hpl := plays_is a len cap 32 w h (by omega)
  clear h
  go_enter Tryz.func6, Tryz.ntmps6
  go_wp2_with fail
  refine hpl.mono ?_
  rintro e w1 ⟨x, rfl, hb, rfl⟩
  go_wp2
  go_ret
  exact ⟨_, rfl, hb, rfl⟩
theorem lawMoved_is (a : Option Addr) (len cap : Nat) (w : World) (h : IsOps w a len) :
    Calls Tryz.prog 7 #[.slice a len cap] w (RBool w fun x => x = true) := by
  have hpl := plays_is a len cap 16 w h (by omega)
  clear h
  go_enter Tryz.func7, Tryz.ntmps7
  go_wp2_with fail
  refine hpl.mono ?_
  rintro e w1 ⟨x, rfl, hb, rfl⟩
  go_wp2
  go_ret
  exact ⟨_, rfl, hb, rfl⟩
theorem lawRefused_is (a : Option Addr) (len cap : Nat) (w : World) (h : IsOps w a len) :
    Calls Tryz.prog 5 #[.slice a len cap] w (RBool w fun x => x = true) := by
  have hpl := plays_is a len cap 1 w h (by omega)
  clear h
  go_enter Tryz.func5, Tryz.ntmps5
  go_wp2_with fail
  refine hpl.mono ?_
  rintro e w1 ⟨x, rfl, hb, rfl⟩
  go_wp2
  go_ret
  exact ⟨_, rfl, hb, rfl⟩
theorem lawBytes_is (a : Option Addr) (len cap : Nat) (w : World) (h : IsOps w a len) :
    Calls Tryz.prog 9 #[.slice a len cap] w (RBool w fun x => x = true) := by
  have hpl := plays_is a len cap 128 w h (by omega)
  clear h
  go_enter Tryz.func9, Tryz.ntmps9
  go_wp2_with fail
  refine hpl.mono ?_
  rintro e w1 ⟨x, rfl, hb, rfl⟩
  go_wp2
  go_ret
  exact ⟨_, rfl, hb, rfl⟩

end Go.Proofs.YtpapdkhjdelfcabGreat
