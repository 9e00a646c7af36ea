import Derived.Test.YtgfildmmcbjpnabGreatLAW
import Derived.Test.YtgfildmmcbjpnabGreatLAZ
import Derived.Test.YtgfildmmcbjpnabGreatLBA
import Derived.Test.YtgfildmmcbjpnabGreatLBC
import Derived.Deep.AppendLies
namespace Go.Proofs.YtgfildmmcbjpnabGreat
open Go.RowKit

def lpickF (c : Int) (n : Int) : Int := (if c < 0 then -(c + 1) else c) % n
theorem lpickF_range (c n : Int) (hn : 0 < n) : 0 ≤ lpickF c n ∧ lpickF c n < n := ⟨Int.emod_nonneg _ (by omega), Int.emod_lt_of_pos _ hn⟩

set_option maxRecDepth 100000 in
set_option maxHeartbeats 400000 in
theorem lpick_is (c n : Int) (w : World) (hc : I64 c) (hn : 0 < n) (hn2 : n ≤ 4611686018427387904) :
    Calls Tryz.prog 24 #[.int .i64 c, .int .i64 n] w fun e w' => e = .returned (.int .i64 (lpickF c n)) ∧ w = w' := by
  obtain ⟨h1, h2⟩ := hc
  have hnz : (n == 0) = false := by rw [beq_eq_false_iff_ne]; omega
  by_cases hneg : c < 0
  · have HX : Hid (lpickF c n = (-(c + 1)) % n) := by show lpickF c n = _; rw [lpickF, if_pos hneg]
    generalize lpickF c n = X at *
    go_enter Tryz.func24, Tryz.ntmps24
    go_wp2
    go_ret
    exact ⟨ret_int (by rw [HX.out, ← Int.neg_tmod, Int.tmod_eq_emod_of_nonneg (by omega)]), rfl⟩
  · have HX : Hid (lpickF c n = c % n) := by show lpickF c n = _; rw [lpickF, if_neg hneg]
    generalize lpickF c n = X at *
    go_enter Tryz.func24, Tryz.ntmps24
    go_wp2
    go_ret
    exact ⟨ret_int HX.out.symm, rfl⟩

theorem ltexts_open {w : World} {v : Value} {L : List ByteArray} (h : RowAt w v L.length (L.map Value.string)) : ∃ ao cap, v = .slice ao L.length cap ∧ ∀ j (hj : j < L.length), ∃ g, ao = some ⟨g, 0, none⟩ ∧ w.cell? ⟨g, j, none⟩ = some (.string L[j]) := by
  rcases h with ⟨h1, h2, _⟩ | ⟨g, cap, hv, hn, hg, hc⟩
  · exact ⟨none, 0, by rw [h1, h2], fun j hj => by omega⟩
  · exact ⟨_, cap, hv, fun j hj => ⟨g, rfl, hc j _ (by simp [hj])⟩⟩

set_option maxRecDepth 100000 in
set_option maxHeartbeats 400000 in
theorem lsame_is (X Y : List ByteArray) (vx vy : Value) (w : World) (hx : RowAt w vx X.length (X.map Value.string)) (hy : RowAt w vy Y.length (Y.map Value.string)) (hl : X.length ≤ 65536) (hl2 : Y.length ≤ 65536) :
    Calls Tryz.prog 34 #[vx, vy] w (RBool w (IsB (X = Y))) := by
  obtain ⟨ax, cx, rfl, hcx⟩ := ltexts_open hx
  obtain ⟨ay, cy, rfl, hcy⟩ := ltexts_open hy
  obtain ⟨Pr, hPr⟩ : ∃ Pr : Prop, Pr = (X = Y) := ⟨_, rfl⟩
  rw [← hPr]
  have HPr := Hid.mk hPr
  clear hPr hx hy
  by_cases hlen : X.length = Y.length
  rotate_left
  · have hlb : ((X.length : Int) != (Y.length : Int)) = true := by rw [bne_iff_ne]; omega
    clear hcx hcy
    go_enter Tryz.func34, Tryz.ntmps34
    go_wp2
    go_ret
    exact ⟨_, rfl, Bel.refl _, ⟨fun h => (by cases h), fun h => (by rw [HPr.out] at h; exact absurd (congrArg List.length h) hlen)⟩⟩
  have hlb : ((X.length : Int) != (Y.length : Int)) = false := by rw [bne_eq_false_iff_eq]; omega
  have HL := Hid.mk hlen
  clear hlen
  go_enter Tryz.func34, Tryz.ntmps34
  go_wp2
  go_loopg [5] X.length (fun r n wr => Bel w wr ∧ ∃ k : Nat, r = X.length - k ∧ k ≤ X.length ∧ n = .int .i64 k ∧ ∀ j (h1 : j < X.length) (h2 : j < Y.length), j < k → X[j] = Y[j])
  case atStart => exact ⟨Bel.refl _, 0, by omega, by omega, rfl, fun j _ _ h => by omega⟩
  case round =>
    obtain ⟨hb, k, hr, hk, rfl, hall⟩ := hrel
    have HA := Hid.mk hall
    clear hall
    by_cases hlt : k < X.length
    · have hlt2 : k < Y.length := by have := HL.out; omega
      obtain ⟨gx, rfl, x0⟩ := hcx k hlt
      obtain ⟨gy, rfl, y0⟩ := hcy k hlt2
      have x0' := hb.cell x0
      have y0' := hb.cell y0
      clear hcx hcy x0 y0
      have hstep : Hid (X[k] = Y[k] → ∀ j (h1 : j < X.length) (h2 : j < Y.length), j < k + 1 → X[j] = Y[j]) := fun e j h1 h2 hj => by
        by_cases he : j = k
        · subst he; exact e
        · exact HA.out j h1 h2 (by omega)
      have hno : Hid (X[k] ≠ Y[k] → ¬ Pr) := fun h hp => by
        rw [HPr.out] at hp
        subst hp
        exact h rfl
      have HE : Hid (((X[k].toList == Y[k].toList) = true) ↔ X[k] = Y[k]) := str_eq
      generalize X[k] = xk at *
      generalize Y[k] = yk at *
      cases heq : xk.toList == yk.toList
      · have hbad := Hid.mk (hno.out (fun e => by rw [HE.out.2 e] at heq; cases heq))
        go_wp2_with fail
        go_quiet (fail)
        go_wp2
        go_ret
        exact ⟨_, rfl, by (repeat (first | exact Bel.refl _ | assumption | refine Bel.step_alloc ?_ _ | refine Bel.step_drew ?_ | refine Bel.step_drewN ?_ _ | refine Bel.step_set ?_ (by simp <;> omega) _ | refine Bel.trans ?_ (by assumption))), ⟨fun h => (by cases h), fun h => absurd h hbad.out⟩⟩
      · have hgood := Hid.mk (hstep.out (HE.out.1 heq))
        go_wp2_with fail
        go_quiet (fail)
        go_wp2
        go_roundg (X.length - (k + 1))
        case measure => omega
        case rel => exact ⟨by (repeat (first | exact Bel.refl _ | assumption | refine Bel.step_alloc ?_ _ | refine Bel.step_drew ?_ | refine Bel.step_drewN ?_ _ | refine Bel.step_set ?_ (by simp <;> omega) _ | refine Bel.trans ?_ (by assumption))), k + 1, rfl, by omega, by go_num, hgood.out⟩
    · have hfin : Hid Pr := by
        show Pr
        rw [HPr.out]
        exact List.ext_getElem HL.out (fun j h1 h2 => HA.out j h1 h2 (by omega))
      clear hcx hcy
      go_wp2
      go_ret
      exact ⟨_, rfl, hb, ⟨fun _ => hfin.out, fun _ => rfl⟩⟩


theorem lheld_is (v d : Value) (w : World) : Calls Tryz.prog 68 #[v, d] w fun e w' => e = .returned (.tuple #[.int .i64 0, .int .i64 0]) ∧ w = w' := by
  go_enter Tryz.func68, Tryz.ntmps68
  go_wp2
  go_ret2
  exact ⟨rfl, rfl⟩
theorem llookup_is (v d x : Value) (w : World) : Calls Tryz.prog 70 #[v, d, x] w fun e w' => e = .returned (.tuple #[.string ByteArray.empty, .int .i64 0]) ∧ w = w' := by
  go_enter Tryz.func70, Tryz.ntmps70
  go_wp2
  go_ret2
  exact ⟨rfl, rfl⟩
theorem ltick_is (v d : Value) (w : World) : Calls Tryz.prog 63 #[v, d] w fun e w' => e = .returned (.tuple #[.string ByteArray.empty, .int .i64 0]) ∧ w = w' := by
  go_enter Tryz.func63, Tryz.ntmps63
  go_wp2
  go_ret2
  exact ⟨rfl, rfl⟩
theorem lserve_is (v d : Value) (w : World) : Calls Tryz.prog 30 #[v, d] w fun e w' => e = .returned (.string ByteArray.empty) ∧ w = w' := by
  go_enter Tryz.func30, Tryz.ntmps30
  go_wp2
  go_ret
  exact ⟨rfl, rfl⟩
theorem lreceive_is (v d x : Value) (w : World) : Calls Tryz.prog 65 #[v, d, x] w fun e w' => e = .returned (.int .i64 0) ∧ w = w' := by
  go_enter Tryz.func65, Tryz.ntmps65
  go_wp2
  go_ret
  exact ⟨rfl, rfl⟩
theorem lrestart_is (v d : Value) (w : World) : Calls Tryz.prog 67 #[v, d] w fun e w' => e = .returned (.int .i64 0) ∧ w = w' := by
  go_enter Tryz.func67, Tryz.ntmps67
  go_wp2
  go_ret
  exact ⟨rfl, rfl⟩
theorem limage_is (v : Value) (f : Int) (w : World) : Calls Tryz.prog 53 #[v, .int .i64 f] w fun e w' => e = .returned (.tuple #[.string ByteArray.empty, .int .i64 0]) ∧ w = w' := by
  go_enter Tryz.func53, Tryz.ntmps53
  go_wp2
  go_ret2
  exact ⟨rfl, rfl⟩
theorem ljoin_is (v f : Value) (w : World) : Calls Tryz.prog 59 #[v, f] w fun e w' => e = .returned (.tuple #[.int .i64 0, .int .i64 0]) ∧ w = w' := by
  go_enter Tryz.func59, Tryz.ntmps59
  go_wp2
  go_ret2
  exact ⟨rfl, rfl⟩
theorem results_four {fn : Func} {t u v x : Tmp} (h : fn.results = #[.tmp t, .tmp u, .tmp v, .tmp x]) (tmps : Array Value) (P : Program) (w : World) :
    (results fn tmps).run P w = .ok (.tuple #[tmps.getD t undef, tmps.getD u undef, tmps.getD v undef, tmps.getD x undef]) w := by
  simp [results, h]
theorem ldecode_is (v : Value) (w : World) : Calls Tryz.prog 43 #[v] w fun e w' => e = .returned (.tuple #[.string ByteArray.empty, .string ByteArray.empty, .int .i64 0, .int .i64 0]) ∧ w = w' := by
  go_enter Tryz.func43, Tryz.ntmps43
  go_wp2
  refine bodyPost_ret (results_four rfl _ _ _) rfl ?_
  exact ⟨rfl, rfl⟩
theorem lpatch_is (v u : Value) (w : World) : Calls Tryz.prog 45 #[v, u] w fun e w' => e = .returned (.tuple #[.string ByteArray.empty, .int .i64 0]) ∧ w = w' := by
  go_enter Tryz.func45, Tryz.ntmps45
  go_wp2
  go_ret2
  exact ⟨rfl, rfl⟩
theorem lapply_is (v u : Value) (w : World) : Calls Tryz.prog 47 #[v, u] w fun e w' => e = .returned (.tuple #[.string ByteArray.empty, .int .i64 0]) ∧ w = w' := by
  go_enter Tryz.func47, Tryz.ntmps47
  go_wp2
  go_ret2
  exact ⟨rfl, rfl⟩
theorem new_no (c : Cfg) (w : World) (hc : ¬ c.OK) : Calls Tryz.prog 9 #[.agg c.cells] w fun e w' => e = .returned (.tuple #[.pointer none, .int .i64 1]) ∧ Bel w w' := by
  have hcf := fun wx => config_any c wx
  have HC := Hid.mk hc
  clear hc
  obtain ⟨alg, slots, points, probes, key, formats⟩ := c
  simp only [Cfg.cells] at *
  go_enter Tryz.func9, Tryz.ntmps9
  go_wp2_with fail
  refine (hcf _).mono ?_
  rintro e w1 ⟨x, rfl, hb1, hx⟩
  have hbw : Bel w w1 := (Bel.step_alloc (Bel.refl w) _).trans hb1
  cases x
  · clear hcf hx hb1
    go_wp2
    go_ret2
    exact ⟨rfl, hbw⟩
  · exact absurd (hx.1 rfl) HC.out

end Go.Proofs.YtgfildmmcbjpnabGreat

namespace Go.Proofs.YtgfildmmcbjpnabGreat
open Go.RowKit

/-- a box's cells: as in the other law -/
def LAt (p : Nat) (L : List Value) (w : World) : Prop := (∀ o u, L[o]? = some u → w.cell? ⟨p, o, none⟩ = some u) ∧ ∀ o, o < L.length → w.frozen? ⟨p, o, none⟩ = false
theorem LAt.but {M : List Nat} {p : Nat} {L : List Value} {w w' : World} (h : LAt p L w) (k : But M w w') (hp : p ∉ M) : LAt p L w' :=
  ⟨fun o u hu => k.cell (h.1 o u hu) hp, fun o ho => k.frozen (h.1 o L[o] (by simp [ho])) hp (h.2 o ho)⟩
/-- a dataplane of the document's side -/
structure PlG where
  p : Nat
  speaks : Int
  has : Value
  gen : Int
  format : Int
  got : Value
  ng : Nat
  no : Bool
def PlG.blocks (x : PlG) : List Nat := x.p :: x.got.ownBlock.toList
def PlG.At (M : List Nat) (x : PlG) (w : World) : Prop := PlaneAt w x.p x.speaks x.has x.gen x.format x.got x.no ∧ (0 ≤ x.speaks ∧ x.speaks ≤ 3) ∧ I64 x.gen ∧ I64 x.format ∧ StrsAt w x.got x.ng ∧ x.ng ≤ 65535 ∧ (∃ hg, HasAt (mask M w) x.has hg) ∧ ∀ g, x.got.ownBlock = some g → g ≠ x.p
/-- a service on both sides -/
structure PrG where
  a : Nat
  q : Nat
  c : Cfg
  B : List BK
  g : Int
  vb : Value
  vs : Value
  vp : Value
  ps : List PlG
def PrG.blocks (x : PrG) : List Nat := x.a :: x.q :: (x.vp.ownBlock.toList ++ x.ps.flatMap PlG.blocks)
def PrG.cells (x : PrG) : List Value := [.pointer (some ⟨x.q, 0, none⟩), .int .i64 x.c.alg, .int .i64 x.c.slots, .int .i64 x.c.points, .int .i64 x.c.probes, .string x.c.key, .int .i64 x.c.formats, x.vb, x.vs, x.vp]
def PrG.At (base : Nat) (M : List Nat) (x : PrG) (w : World) : Prop := LAt x.a x.cells w ∧ SvcAt M x.q x.c x.B x.g w ∧ PoolAt (mask M w) x.vb x.B ∧ Good x.B ∧ x.c.OK ∧ (0 ≤ x.g ∧ x.g ≤ 70000 ∧ (x.g = 0 → x.B = [])) ∧ HasE (mask M w) x.vs x.c x.B x.g ∧
  w.ownsRow base 100 1 x.vp x.ps.length (x.ps.map fun y => Value.pointer (some ⟨y.p, 0, none⟩)) ∧ x.ps.length ≤ 4 ∧ ∀ y ∈ x.ps, y.At M w
/-- a list that was handed out, and what it must read as -/
structure LsG where
  g1 : Nat
  g2 : Nat
  T : List ByteArray

/-- what was read off masked memory stays, whatever is written into the masked -/
theorem HasAt.masks {M N : List Nat} {w w' : World} {v : Value} {gen : Int} (h : HasAt (mask M w) v gen) (k : But N w w') (hN : ∀ j ∈ N, j ∈ M ∨ w.heap.size ≤ j) : HasAt (mask M w') v gen := h.later (k.mono hN)
theorem HasE.masks {M N : List Nat} {w w' : World} {v : Value} {c : Cfg} {B : List BK} {gen : Int} (h : HasE (mask M w) v c B gen) (k : But N w w') (hN : ∀ j ∈ N, j ∈ M ∨ w.heap.size ≤ j) : HasE (mask M w') v c B gen := h.later (k.mono hN)
theorem PlG.At.but {M N : List Nat} {x : PlG} {w w' : World} (h : x.At M w) (k : But N w w') (hN : ∀ j ∈ N, j ∈ M ∨ w.heap.size ≤ j) (hd : ∀ j ∈ x.blocks, j ∉ N) : x.At M w' := by
  obtain ⟨⟨⟨h0, h1, h2, h3, h4, h5⟩, hf⟩, r1, r2, r3, r4, r5, ⟨hg, r6⟩, r7⟩ := h
  have hp : x.p ∉ N := hd x.p (by simp [PlG.blocks])
  refine ⟨⟨⟨k.cell h0 hp, k.cell h1 hp, k.cell h2 hp, k.cell h3 hp, k.cell h4 hp, k.cell h5 hp⟩, fun j => ?_⟩, r1, r2, r3, ?_, r5, ⟨hg, r6.masks k hN⟩, r7⟩
  · rw [World.frozen?_of_block (w := w) (k.block x.p (World.block_lt_of_cell? w _ h0) hp)]
    exact hf j
  · rcases r4 with r4 | ⟨g, cap, hv, hgl, hc⟩
    · exact Or.inl r4
    · have hgn : g ∉ N := hd g (by simp [PlG.blocks, hv, Value.ownBlock])
      refine Or.inr ⟨g, cap, hv, Nat.lt_of_lt_of_le hgl k.size, fun j hj => ?_⟩
      obtain ⟨s, s1, s2, s3⟩ := hc j hj
      exact ⟨s, k.cell s1 hgn, k.frozen s1 hgn s2, s3⟩

theorem lown_but {M : List Nat} {base : Nat} {e : TypeId} {sz : Nat} {v : Value} {n : Nat} {xs : List Value} {w w' : World} (h : w.ownsRow base e sz v n xs) (b : But M w w') (hne : ∀ g, v.ownBlock = some g → g ∉ M) : w'.ownsRow base e sz v n xs := by
  refine ⟨h.1, ?_⟩
  rcases h.2 with h1 | ⟨g, cap, cur, hv, hg, hh, r⟩
  · exact Or.inl h1
  · exact Or.inr ⟨g, cap, cur, hv, hg, by rw [b.block g (Array.getElem?_eq_some_iff.1 hh).1 (hne g (by rw [hv]; rfl))]; exact hh, r⟩
theorem PrG.At.but {base : Nat} {M N : List Nat} {x : PrG} {w w' : World} (h : x.At base M w) (k : But N w w') (hN : ∀ j ∈ N, j ∈ M ∨ w.heap.size ≤ j) (hd : ∀ j ∈ x.blocks, j ∉ N) : x.At base M w' := by
  obtain ⟨h1, h2, h3, h4, h5, h6, h7, h8, h9, h10⟩ := h
  have hm : Bel (mask M w) (mask M w') := k.mono hN
  refine ⟨h1.but k (hd _ (by simp [PrG.blocks])), h2.but k (hd _ (by simp [PrG.blocks])) hN, h3.later hm, h4, h5, h6, h7.later hm, lown_but h8 k (fun g hg => hd g (by simp [PrG.blocks, hg])), h9, fun y hy => (h10 y hy).but k hN (fun j hj => hd j ?_)⟩
  simp only [PrG.blocks, List.mem_cons, List.mem_append, List.mem_flatMap]
  exact Or.inr (Or.inr (Or.inr ⟨y, hy, hj⟩))

end Go.Proofs.YtgfildmmcbjpnabGreat

namespace Go.Proofs.YtgfildmmcbjpnabGreat
open Go.RowKit

theorem lgrown_but {w w' : World} {row : Option Nat} (h : w.grownBy w' row) : But row.toList w w' :=
  But.mk h.os h.tape h.output h.size (fun k hk hm => h.block k hk (fun e => hm (by rw [← e]; simp)))
set_option maxRecDepth 100000 in
set_option maxHeartbeats 400000 in
/-- a text more in the heap -/
theorem lput_is (base p n : Nat) (vf : Value) (xs : List Value) (S : ByteArray) (w : World) (c7 : w.cell? ⟨p, 7, none⟩ = some vf) (f7 : w.frozen? ⟨p, 7, none⟩ = false) (hrow : w.ownsRow base 9 1 vf n xs) (hn : n ≤ 200000) (hb : base ≤ w.heap.size) (hvp : vf.ownBlock ≠ some p) :
    Calls Tryz.prog 31 #[.pointer (some ⟨p, 0, none⟩), .string S] w fun e w' => e = .returned (.tuple #[]) ∧ ∃ g cap w1, But vf.ownBlock.toList w w1 ∧ w' = w1.setCell ⟨p, 7, none⟩ (sl g (n + 1) cap) ∧ w1.ownsRow base 9 1 (sl g (n + 1) cap) (n + 1) (xs ++ [.string S]) ∧ (vf.ownBlock = some g ∨ w.heap.size ≤ g) := by
  obtain ⟨i0, hi, hz0, hz1, hz2⟩ := info_parts Tryz.infoStr
  have HR := Hid.mk hrow
  have hplt := World.block_lt_of_cell? w _ c7
  clear hrow
  go_enter Tryz.func31, Tryz.ntmps31
  go_wp2_with (first | (at_builtin; refine wpList_append_lies _ rfl _ _ 36 rfl base 9 i0 (.string ByteArray.empty) 1 16 Tryz.underlying36 hi hz0 hz1 hz2 rfl (by decide) _ n xs rfl ?p1 ⟨w.heap.size, 0, none⟩ 1 1 [.string S] rfl rfl ?d1 ?d2 (by decide) ?d3 ?d4 ?d5 _ rfl ?_))
  case p1 => exact World.ownsRow.alloc HR.out _
  try (case d1 => exact one_new _ _ _ _ (by simp))
  case d2 => first | rfl | (intro u hu; simp at hu; subst hu; rfl)
  case d3 => unfold maxLen; omega
  case d4 => omega
  case d5 => first | omega | (simp; omega)
  intro g cap w3 hown3 hgrow3 hat3 hlt3
  have b3 : But vf.ownBlock.toList w w3 := (But.of_bel (Bel.step_alloc (Bel.refl w) _)).trans (lgrown_but hgrow3)
  have hpn : p ∉ vf.ownBlock.toList := fun h => hvp (by simpa using h)
  have x7 := b3.cell c7 hpn
  have y7 := b3.frozen c7 hpn f7
  have HO := Hid.mk hown3
  have hg : Hid (vf.ownBlock = some g ∨ w.heap.size ≤ g) := hat3.imp id (fun e => by first | omega | (rw [e]; simp))
  clear hown3 hgrow3 hat3
  go_wp2
  go_end0
  exact ⟨rfl, g, cap, w3, b3, rfl, HO.out, hg.out⟩

/-- what lies in the heap -/
def RHeap (H : List ByteArray) (w : World) (e : Ending) (w' : World) : Prop := ∃ s, e = .returned (.string s) ∧ Bel w w' ∧ (s = ByteArray.empty ∨ s ∈ H)
theorem lat_is (base p n : Nat) (vh : Value) (H : List ByteArray) (a : Int) (w : World) (c7 : w.cell? ⟨p, 7, none⟩ = some vh) (hrow : w.ownsRow base 9 1 vh n (H.map Value.string)) (hn : n ≤ 200000) (ha : I64 a) :
    Calls Tryz.prog 29 #[.pointer (some ⟨p, 0, none⟩), .int .i64 a] w (RHeap H w) := by
  obtain ⟨ao, cap, rfl⟩ := own_slice hrow
  have hl : H.length = n := by have := hrow.1; simpa using this
  by_cases h0 : n = 0
  · subst h0
    clear hrow
    go_enter Tryz.func29, Tryz.ntmps29
    go_wp2
    go_ret
    exact ⟨_, rfl, Bel.refl _, Or.inl rfl⟩
  have hne : ((n : Int) == 0) = false := by rw [beq_eq_false_iff_ne]; omega
  have hpk := fun wx => lpick_is a n wx ha (by omega) (by omega)
  obtain ⟨h1, h2⟩ := lpickF_range a n (by omega)
  obtain ⟨m, hm⟩ := Int.eq_ofNat_of_zero_le h1
  rw [hm] at hpk h2
  have hml : m < n := by omega
  have hmH : m < H.length := by omega
  obtain ⟨g, cap', hv, -, -⟩ := World.ownsRow.form hrow (by omega)
  simp only [Value.slice.injEq, true_and] at hv
  obtain ⟨rfl, rfl⟩ := hv
  have hx : w.cell? ⟨g, m, none⟩ = some (.string (H[m]'hmH)) := (World.ownsRow.cellAt hrow m (by omega)).trans (by rw [List.getElem?_map, List.getElem?_eq_getElem (by omega)]; rfl)
  have HM : Hid (H[m]'hmH ∈ H) := List.getElem_mem _
  clear hrow h1 h2 hm
  generalize H[m]'hmH = s at *
  go_enter Tryz.func29, Tryz.ntmps29
  go_wp2_with fail
  go_quiet ((go_at_call 24; refine Calls.quiet_of_same ((hpk _).mono fun e w2 h => ⟨h.1, h.2.symm⟩)))
  go_wp2
  go_ret
  exact ⟨_, rfl, by (repeat (first | exact Bel.refl _ | assumption | refine Bel.step_alloc ?_ _ | refine Bel.step_drew ?_ | refine Bel.step_drewN ?_ _ | refine Bel.step_set ?_ (by simp <;> omega) _ | refine Bel.trans ?_ (by assumption))), Or.inr HM.out⟩

/-- a number of the configuration -/
def RNumber (p : Nat) (v : Int) (w : World) (e : Ending) (w' : World) : Prop := e = .returned (.tuple #[]) ∧ ∃ o, (o = 0 ∨ o = 1 ∨ o = 2 ∨ o = 3 ∨ o = 5) ∧ w' = w.setCell ⟨p, o, none⟩ (.int .i64 v)
theorem lnumber_is (p : Nat) (L : List Value) (k v : Int) (w : World) (h : LAt p L w) (hL : 6 ≤ L.length) (hk0 : 0 ≤ k) (hk4 : k < 5) :
    Calls Tryz.prog 39 #[.pointer (some ⟨p, 0, none⟩), .int .i64 k, .int .i64 v] w (RNumber p v w) := by
  have c0 := h.1 0 L[0] (by simp)
  have c1 := h.1 1 L[1] (by simp)
  have c2 := h.1 2 L[2] (by simp)
  have c3 := h.1 3 L[3] (by simp)
  have c5 := h.1 5 L[5] (by simp)
  have f0 := h.2 0 (by omega)
  have f1 := h.2 1 (by omega)
  have f2 := h.2 2 (by omega)
  have f3 := h.2 3 (by omega)
  have f5 := h.2 5 (by omega)
  clear h
  generalize L[0] = u0 at *
  generalize L[1] = u1 at *
  generalize L[2] = u2 at *
  generalize L[3] = u3 at *
  generalize L[5] = u5 at *
  rcases (show k = 0 ∨ k = 1 ∨ k = 2 ∨ k = 3 ∨ k = 4 by omega) with rfl | rfl | rfl | rfl | rfl
  all_goals
    go_enter Tryz.func39, Tryz.ntmps39
    go_wp2
    go_end0
    exact ⟨rfl, _, by simp, rfl⟩

end Go.Proofs.YtgfildmmcbjpnabGreat

namespace Go.Proofs.YtgfildmmcbjpnabGreat
open Go.RowKit

theorem LAt.later {p : Nat} {L : List Value} {w w' : World} (h : LAt p L w) (k : Bel w w') : LAt p L w' := h.but (M := []) (But.of_bel k) (by simp)
theorem LAt.set {p : Nat} {L : List Value} {w : World} (h : LAt p L w) (o : Nat) (u : Value) : LAt p (L.set o u) (w.setCell ⟨p, o, none⟩ u) := by
  refine ⟨fun j x hx => ?_, fun j hj => by rw [frozen_set]; exact h.2 j (by simpa using hj)⟩
  by_cases hjo : o = j
  · subst hjo
    have hl := (List.getElem?_eq_some_iff.1 hx).1
    rw [List.length_set] at hl
    rw [List.getElem?_set_self hl] at hx
    cases hx
    exact set_same (h.1 o L[o] (by simp [hl]))
  · rw [List.getElem?_set_ne hjo] at hx
    rw [set_other (Or.inr hjo)]
    exact h.1 j x hx
/-- the law's world, all of it -/
structure WG where
  p : Nat
  M : List Nat
  c : Cfg
  vl : Value
  vh : Value
  vls : Value
  vlw : Value
  prs : List PrG
  H : List ByteArray
  lss : List LsG
def WG.cells (x : WG) : List Value := [.int .i64 x.c.alg, .int .i64 x.c.slots, .int .i64 x.c.points, .int .i64 x.c.probes, .string x.c.key, .int .i64 x.c.formats, x.vl, x.vh, x.vls, x.vlw]
def WG.blocks (x : WG) : List Nat := x.p :: (x.vl.ownBlock.toList ++ x.vh.ownBlock.toList ++ x.vls.ownBlock.toList ++ x.vlw.ownBlock.toList ++ x.lss.flatMap (fun l => [l.g1, l.g2]) ++ x.prs.flatMap PrG.blocks)
def LsG.At (base : Nat) (l : LsG) (w : World) : Prop := w.ownsRow base 9 1 (sl l.g1 l.T.length l.T.length) l.T.length (l.T.map Value.string) ∧ w.ownsRow base 9 1 (sl l.g2 l.T.length l.T.length) l.T.length (l.T.map Value.string) ∧ l.T.length ≤ 65536
/-- what the law's world stands on: a world, and boxes beside the law's own that stay -/
structure Base where
  W : World
  ex : List (Nat × Int)
abbrev Base.heap (b : Base) : Array Obj := b.W.heap
def BelX (W0 : Base) (M : List Nat) (w : World) : Prop := Bel W0.W w ∧ ∀ e ∈ W0.ex, e.1 ∉ M ∧ e.1 < w.heap.size ∧ w.cell? ⟨e.1, 0, none⟩ = some (.int .i64 e.2)
theorem BelX.size {W0 : Base} {M : List Nat} {w : World} (h : BelX W0 M w) : W0.heap.size ≤ w.heap.size := h.1.size
theorem BelX.trans {W0 : Base} {M : List Nat} {w w' : World} (h : BelX W0 M w) (b : Bel w w') : BelX W0 M w' := ⟨h.1.trans b, fun e he => ⟨(h.2 e he).1, Nat.lt_of_lt_of_le (h.2 e he).2.1 b.size, b.cell (h.2 e he).2.2⟩⟩
theorem But.belX {N M M' : List Nat} {W0 : Base} {w w' : World} (h : BelX W0 M w) (hb : But N w w') (hm : ∀ j ∈ N, W0.heap.size ≤ j) (hN : ∀ j ∈ N, j ∈ M) (hM : ∀ j ∈ M', j ∈ M ∨ w.heap.size ≤ j) : BelX W0 M' w' := by
  refine ⟨But.belTo h.1 hb hm, fun e he => ?_⟩
  obtain ⟨h1, h2, h3⟩ := h.2 e he
  exact ⟨fun hc => (hM _ hc).elim h1 (fun h4 => by omega), Nat.lt_of_lt_of_le h2 hb.size, hb.cell h3 (fun hc => h1 (hN _ hc))⟩
def WInv (W0 : Base) (s : Nat) (x : WG) (w : World) : Prop := LAt x.p x.cells w ∧ BelX W0 x.M w ∧ x.blocks.Nodup ∧ (∀ j ∈ x.blocks, j ∈ x.M) ∧ (∀ j ∈ x.M, W0.heap.size ≤ j ∧ j < w.heap.size) ∧ x.c.Fit ∧
  w.ownsRow W0.heap.size 58 1 x.vl x.prs.length (x.prs.map fun y => Value.pointer (some ⟨y.a, 0, none⟩)) ∧
  w.ownsRow W0.heap.size 9 1 x.vh x.H.length (x.H.map Value.string) ∧ (∀ t ∈ x.H, t.size ≤ 1099511627776) ∧
  w.ownsRow W0.heap.size 36 1 x.vls x.lss.length (x.lss.map fun l => sl l.g1 l.T.length l.T.length) ∧ w.ownsRow W0.heap.size 36 1 x.vlw x.lss.length (x.lss.map fun l => sl l.g2 l.T.length l.T.length) ∧
  (x.prs.length ≤ s ∧ x.H.length ≤ s ∧ x.lss.length ≤ s) ∧ (∀ l ∈ x.lss, l.At W0.heap.size w) ∧ ∀ y ∈ x.prs, y.At W0.heap.size x.M w ∧ y.g ≤ s
theorem WInv.later {W0 : Base} {s : Nat} {x : WG} {w w' : World} (h : WInv W0 s x w) (b : Bel w w') : WInv W0 s x w' := by
  obtain ⟨h1, h2, h3, h4, h5, h6, h7, h8, h9, h10, h11, h12, h13, h14⟩ := h
  exact ⟨h1.later b, h2.trans b, h3, h4, fun j hj => ⟨(h5 j hj).1, Nat.lt_of_lt_of_le (h5 j hj).2 b.size⟩, h6, own_later h7 b, own_later h8 b, h9, own_later h10 b, own_later h11 b, h12, fun l hl => ⟨own_later (h13 l hl).1 b, own_later (h13 l hl).2.1 b, (h13 l hl).2.2⟩,
    fun y hy => ⟨(h14 y hy).1.but (N := []) (But.of_bel b) (by simp) (by simp), (h14 y hy).2⟩⟩
theorem WInv.up {W0 : Base} {s t : Nat} {x : WG} {w : World} (h : WInv W0 s x w) (ht : s ≤ t) : WInv W0 t x w := by
  obtain ⟨h1, h2, h3, h4, h5, h6, h7, h8, h9, h10, h11, ⟨a, b, c⟩, h13, h14⟩ := h
  exact ⟨h1, h2, h3, h4, h5, h6, h7, h8, h9, h10, h11, ⟨by omega, by omega, by omega⟩, h13, fun y hy => ⟨(h14 y hy).1, by have := (h14 y hy).2; omega⟩⟩

theorem lmask_cons {j : Nat} {M : List Nat} {w : World} (h : j ∈ M ∨ w.heap.size ≤ j) : mask (j :: M) w = mask M w := by
  unfold mask
  congr 1
  apply Array.ext
  · simp
  · intro i h1 h2
    have hi : i < w.heap.size := by simpa using h1
    simp only [Array.getElem_mapIdx, List.mem_cons]
    by_cases hm : i ∈ M
    · simp [hm]
    · by_cases hij : i = j
      · subst hij
        rcases h with h | h
        · exact absurd h hm
        · omega
      · simp [hm, hij]
theorem SvcAt.lcons {M : List Nat} {q : Nat} {c : Cfg} {B : List BK} {g : Int} {w : World} (h : SvcAt M q c B g w) {j : Nat} (hj : j ∈ M ∨ w.heap.size ≤ j) : SvcAt (j :: M) q c B g w := by
  obtain ⟨hm, vP, vE, hT, h8, hF, hP, hE⟩ := h
  rw [← lmask_cons hj] at hP hE
  exact ⟨List.mem_cons_of_mem _ hm, vP, vE, hT, h8, hF, hP, hE⟩
theorem PlG.At.cons {M : List Nat} {x : PlG} {w : World} (h : x.At M w) {j : Nat} (hj : j ∈ M ∨ w.heap.size ≤ j) : x.At (j :: M) w := by
  unfold PlG.At at *
  rw [lmask_cons hj]
  exact h
theorem PrG.At.cons {base : Nat} {M : List Nat} {x : PrG} {w : World} (h : x.At base M w) {j : Nat} (hj : j ∈ M ∨ w.heap.size ≤ j) : x.At base (j :: M) w := by
  obtain ⟨h1, h2, h3, h4, h5, h6, h7, h8, h9, h10⟩ := h
  refine ⟨h1, h2.lcons hj, ?_, h4, h5, h6, ?_, h8, h9, fun y hy => (h10 y hy).cons hj⟩
  · rw [lmask_cons hj]; exact h3
  · rw [lmask_cons hj]; exact h7

end Go.Proofs.YtgfildmmcbjpnabGreat

namespace Go.Proofs.YtgfildmmcbjpnabGreat
open Go.RowKit

theorem nodup_swap {p : Nat} {A O C : List Nat} {g : Nat} (h : (p :: (A ++ (O ++ C))).Nodup) (hg : O = [g] ∨ (g ≠ p ∧ g ∉ A ∧ g ∉ C)) : (p :: (A ++ ([g] ++ C))).Nodup ∧ (∀ j ∈ A, j ∉ p :: O) ∧ ∀ j ∈ C, j ∉ p :: O := by
  rw [List.nodup_cons, List.nodup_append, List.nodup_append] at h
  obtain ⟨hp, hA, ⟨hO, hC, hOC⟩, hAOC⟩ := h
  have hpA : p ∉ A := fun e => hp (List.mem_append_left _ e)
  have hpO : p ∉ O := fun e => hp (List.mem_append_right _ (List.mem_append_left _ e))
  have hpC : p ∉ C := fun e => hp (List.mem_append_right _ (List.mem_append_right _ e))
  refine ⟨?_, fun j hj => ?_, fun j hj => ?_⟩
  · rcases hg with rfl | ⟨g1, g2, g3⟩
    · rw [List.nodup_cons, List.nodup_append, List.nodup_append]
      exact ⟨hp, hA, ⟨hO, hC, hOC⟩, hAOC⟩
    · rw [List.nodup_cons, List.nodup_append, List.nodup_append]
      refine ⟨?_, hA, ⟨by simp, hC, fun a ha b hb => ?_⟩, fun a ha b hb => ?_⟩
      · simp only [List.mem_append, List.mem_singleton]
        rintro (h | h | h)
        · exact hpA h
        · exact g1 h.symm
        · exact hpC h
      · rw [List.mem_singleton.1 ha]
        exact fun e => g3 (e ▸ hb)
      · rcases List.mem_append.1 hb with h | h
        · rw [List.mem_singleton.1 h]
          exact fun e => g2 (e ▸ ha)
        · exact hAOC a ha b (List.mem_append_right _ h)
  · rw [List.mem_cons]
    rintro (rfl | h)
    · exact hpA hj
    · exact hAOC j hj j (List.mem_append_left _ h) rfl
  · rw [List.mem_cons]
    rintro (rfl | h)
    · exact hpC hj
    · exact hOC j h j hj rfl
/-- a text more in the heap -/
theorem WInv.put {W0 : Base} {s : Nat} {x : WG} {w w1 : World} {g cap : Nat} {S : ByteArray} (h : WInv W0 s x w) (hb : But x.vh.ownBlock.toList w w1) (hrow : w1.ownsRow W0.heap.size 9 1 (sl g (x.H.length + 1) cap) (x.H.length + 1) (x.H.map Value.string ++ [.string S]))
    (hg : x.vh.ownBlock = some g ∨ w.heap.size ≤ g) (hS : S.size ≤ 1099511627776) : WInv W0 (s + 1) { x with vh := sl g (x.H.length + 1) cap, H := x.H ++ [S], M := g :: x.M } (w1.setCell ⟨x.p, 7, none⟩ (sl g (x.H.length + 1) cap)) := by
  obtain ⟨h1, h2, h3, h4, h5, h6, h7, h8, h9, h10, h11, ⟨s1, s2, s3⟩, h13, h14⟩ := h
  have hO : ∀ j ∈ x.vh.ownBlock.toList, j ∈ x.blocks := fun j hj => by simp only [WG.blocks, List.mem_cons, List.mem_append]; simp [hj]
  have hpb : x.p ∈ x.blocks := by simp [WG.blocks]
  have hg1 : g ∈ x.M ∨ w.heap.size ≤ g := hg.imp (fun e => h4 g (hO g (by simp [e]))) id
  have hgb : W0.heap.size ≤ g := by
    rcases hg with e | e
    · exact (h5 g (h4 g (hO g (by simp [e])))).1
    · have := h2.size; omega
  have bw : But (x.p :: x.vh.ownBlock.toList) w (w1.setCell ⟨x.p, 7, none⟩ (sl g (x.H.length + 1) cap)) := (hb.mono (fun k hk => Or.inl (List.mem_cons_of_mem _ hk))).put (Or.inl (by simp)) _
  have hN : ∀ j ∈ x.p :: x.vh.ownBlock.toList, j ∈ g :: x.M ∨ w.heap.size ≤ j := fun j hj => Or.inl (List.mem_cons_of_mem _ (h4 j (by rcases List.mem_cons.1 hj with rfl | e; exact hpb; exact hO j e)))
  have hbl : x.blocks = x.p :: (x.vl.ownBlock.toList ++ (x.vh.ownBlock.toList ++ (x.vls.ownBlock.toList ++ x.vlw.ownBlock.toList ++ x.lss.flatMap (fun l => [l.g1, l.g2]) ++ x.prs.flatMap PrG.blocks))) := by simp [WG.blocks]
  have hfree : x.vh.ownBlock.toList = [g] ∨ (g ≠ x.p ∧ g ∉ x.vl.ownBlock.toList ∧ g ∉ (x.vls.ownBlock.toList ++ x.vlw.ownBlock.toList ++ x.lss.flatMap (fun l => [l.g1, l.g2]) ++ x.prs.flatMap PrG.blocks)) := by
    rcases hg with e | e
    · exact Or.inl (by simp [e])
    · have hout : g ∉ x.blocks := fun hm => by have := (h5 g (h4 g hm)).2; omega
      rw [hbl] at hout
      refine Or.inr ⟨fun e2 => hout (by simp [e2]), fun e2 => hout ?_, fun e2 => hout ?_⟩
      · exact List.mem_cons_of_mem _ (List.mem_append_left _ e2)
      · exact List.mem_cons_of_mem _ (List.mem_append_right _ (List.mem_append_right _ e2))
  obtain ⟨nd, dA, dC⟩ := nodup_swap (hbl ▸ h3) hfree
  have hpg : x.p ≠ g := by
    have := (List.nodup_cons.1 nd).1
    exact fun e => this (by simp [e])
  have dls : ∀ j ∈ x.vls.ownBlock.toList, j ∉ x.p :: x.vh.ownBlock.toList := fun j hj => dC j (by simp only [List.mem_append]; exact Or.inl (Or.inl (Or.inl hj)))
  have dlw : ∀ j ∈ x.vlw.ownBlock.toList, j ∉ x.p :: x.vh.ownBlock.toList := fun j hj => dC j (by simp only [List.mem_append]; exact Or.inl (Or.inl (Or.inr hj)))
  have dll : ∀ l ∈ x.lss, ∀ j ∈ [l.g1, l.g2], j ∉ x.p :: x.vh.ownBlock.toList := fun l hl j hj => dC j (by simp only [List.mem_append]; exact Or.inl (Or.inr (List.mem_flatMap.2 ⟨l, hl, hj⟩)))
  have dpr : ∀ y ∈ x.prs, ∀ j ∈ y.blocks, j ∉ x.p :: x.vh.ownBlock.toList := fun y hy j hj => dC j (by simp only [List.mem_append]; exact Or.inr (List.mem_flatMap.2 ⟨y, hy, hj⟩))
  have hB : BelX W0 (g :: x.M) (w1.setCell ⟨x.p, 7, none⟩ (sl g (x.H.length + 1) cap)) := But.belX h2 bw (fun j hj => (h5 j (h4 j (by rcases List.mem_cons.1 hj with rfl | e; exact hpb; exact hO j e))).1) (fun j hj => h4 j (by rcases List.mem_cons.1 hj with rfl | e; exact hpb; exact hO j e)) (fun j hj => by rcases List.mem_cons.1 hj with rfl | e; exact hg1; exact Or.inl e)
  have hsz := bw.size
  have hgl : g < (w1.setCell ⟨x.p, 7, none⟩ (sl g (x.H.length + 1) cap)).heap.size := by
    have := (World.ownsRow.lt hrow g rfl).2
    simpa [World.setCell] using this
  refine ⟨?_, hB, ?_, ?_, ?_, h6, lown_but h7 bw (fun k hk => dA k (by simp [hk])), ?_, ?_, lown_but h10 bw (fun k hk => dls k (by simp [hk])), lown_but h11 bw (fun k hk => dlw k (by simp [hk])), ⟨by show x.prs.length ≤ _; omega, by simp; omega, by show x.lss.length ≤ _; omega⟩, fun l hl => ?_, fun y hy => ⟨((h14 y hy).1.cons hg1).but bw hN (dpr y hy), by have := (h14 y hy).2; omega⟩⟩
  · have hW := (h1.but hb (fun e => by
      have := (List.nodup_cons.1 (hbl ▸ h3)).1
      exact this (List.mem_append_right _ (List.mem_append_left _ e)))).set 7 (sl g (x.H.length + 1) cap)
    exact hW
  · show (WG.blocks _).Nodup
    have : (x.p :: (x.vl.ownBlock.toList ++ ([g] ++ (x.vls.ownBlock.toList ++ x.vlw.ownBlock.toList ++ x.lss.flatMap (fun l => [l.g1, l.g2]) ++ x.prs.flatMap PrG.blocks)))).Nodup := nd
    simpa [WG.blocks, sl, Value.ownBlock] using this
  · intro j hj
    have hj2 : j = g ∨ j ∈ x.blocks := by
      simp only [WG.blocks, sl, Value.ownBlock, List.mem_cons, List.mem_append, Option.toList_some, List.not_mem_nil, or_false] at hj ⊢
      rcases hj with h | ((((h | h) | h) | h) | h) | h
      · exact Or.inr (Or.inl h)
      · exact Or.inr (Or.inr (Or.inl (Or.inl (Or.inl (Or.inl (Or.inl h))))))
      · exact Or.inl h
      · exact Or.inr (Or.inr (Or.inl (Or.inl (Or.inl (Or.inr h)))))
      · exact Or.inr (Or.inr (Or.inl (Or.inl (Or.inr h))))
      · exact Or.inr (Or.inr (Or.inl (Or.inr h)))
      · exact Or.inr (Or.inr (Or.inr h))
    rcases hj2 with rfl | hj2
    · exact List.mem_cons_self
    · exact List.mem_cons_of_mem _ (h4 j hj2)
  · intro j hj
    rcases List.mem_cons.1 hj with rfl | hj
    · exact ⟨hgb, hgl⟩
    · exact ⟨(h5 j hj).1, Nat.lt_of_lt_of_le (h5 j hj).2 hsz⟩
  · have := lown_but hrow ((But.refl [x.p] w1).set (p := ⟨x.p, 7, none⟩) (by simp) (sl g (x.H.length + 1) cap)) (fun k hk hm => by
      simp [sl, Value.ownBlock] at hk hm
      exact hpg (by omega))
    simpa using this
  · intro t ht
    rcases List.mem_append.1 ht with h | h
    · exact h9 t h
    · rw [List.mem_singleton.1 h]; exact hS
  · obtain ⟨l1, l2, l3⟩ := h13 l hl
    exact ⟨lown_but l1 bw (fun k hk => dll l hl k (by simp [sl, Value.ownBlock] at hk; simp [hk])), lown_but l2 bw (fun k hk => dll l hl k (by simp [sl, Value.ownBlock] at hk; simp [hk])), l3⟩

end Go.Proofs.YtgfildmmcbjpnabGreat
