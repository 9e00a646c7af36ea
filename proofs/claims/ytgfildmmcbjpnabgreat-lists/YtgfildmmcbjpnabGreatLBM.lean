import Derived.Test.YtgfildmmcbjpnabGreatLBJ
import Derived.Test.YtgfildmmcbjpnabGreatLBK
import Derived.Test.YtgfildmmcbjpnabGreatLBL
import Derived.Deep.QuietTactic
import Derived.BigQuiet
namespace Go.Proofs.YtgfildmmcbjpnabGreat
open Go.RowKit

/-- what an image that can be read is -/
def ReadIs (v : Value) (w : World) : Prop := ∃ (p : Nat) (c : Cfg) (gen : Int) (B : List BK) (E : List EN), v = .pointer (some ⟨p, 0, none⟩) ∧ StateAt w p c gen B E ∧ StateOK c gen B E ∧ (∀ x ∈ E, W32 x.2.1 ∧ W32 x.2.2) ∧ E.length ≤ 65535
theorem ReadIs.later {v : Value} {w w' : World} (h : ReadIs v w) (b : Bel w w') : ReadIs v w' := by
  obtain ⟨p, c, gen, B, E, h1, h2, r⟩ := h
  exact ⟨p, c, gen, B, E, h1, h2.later b, r⟩
def RReadL (w : World) (e : Ending) (w' : World) : Prop := ∃ (v : Value) (f : Int) (ok : Bool), e = .returned (.tuple #[v, .int .i64 f, .bool ok]) ∧ Bel w w' ∧ (ok = true → ReadIs v w')
theorem readL_is (s : ByteArray) (w : World) (hs : s.size ≤ 1099511627776) : Calls Tryz.prog 42 #[.string s] w (RReadL w) := by
  refine (read3_any s w hs).mono ?_
  rintro e w' ⟨v, f, ok, rfl, hb, h⟩
  refine ⟨v, f, ok, rfl, hb, fun h1 => ?_⟩
  obtain ⟨p, c, gen, B, E, r1, -, r2, r3, r4, -, -, -, r5⟩ := h h1
  exact ⟨p, c, gen, B, E, r1, r2.state, r3, r4, r5⟩

set_option maxRecDepth 100000 in
set_option maxHeartbeats 1000000 in
theorem images_decode (W0 : Base) (s : Nat) (x : WG) (A B C : Int) (S : ByteArray) (w : World) (h : WInv W0 s x w) (hs : s ≤ 150000) (hA : I64 A) (hB : I64 B) :
    Calls Tryz.prog 23 #[.pointer (some ⟨x.p, 0, none⟩), opv 22 A B C S] w (RGo W0 x.p (s + 1)) := by
  have ha1 := fun wx (b : Bel w wx) => wat_is W0 s x A wx (h.later b) hs hA
  have ha2 := fun wx (b : Bel w wx) => wat_is W0 s x B wx (h.later b) hs hB
  have hend : Hid (∀ wx (b : Bool), Bel w wx → RGo W0 x.p (s + 1) (.returned (.bool b)) wx) := fun wx b hb => ⟨b, rfl, x, (h.later hb).up (by omega), rfl⟩
  generalize x.p = p at *
  clear h
  unfold opv
  go_enter Tryz.func23, Tryz.ntmps23
  go_wp2_with fail
  obtain ⟨wo, hwo, hbo, o0, o1, o2, o3, o4⟩ := op_box w (.int .i64 22) (.int .i64 A) (.int .i64 B) (.int .i64 C) (.string S) 28
  rw [hwo]
  clear hwo
  generalize w.heap.size = po at o0 o1 o2 o3 o4 ⊢
  refine (ha1 _ hbo).mono ?_
  rintro e w1 ⟨a, rfl, hb1, hsa⟩
  have q2 := hb1.cell o2
  have q0 := hb1.cell o0
  have hbw1 := hbo.trans hb1
  clear ha1 o0 o1 o2 o3 o4 hb1 hbo
  go_wp2_with fail
  refine (ha2 _ hbw1).mono ?_
  rintro e w2 ⟨b, rfl, hb2, hsb⟩
  have r0 := hb2.cell q0
  have hbw2 := hbw1.trans hb2
  clear ha2 q0 q2 hb2 hbw1
  go_wp2_with fail
  refine (readL_is a w2 hsa).mono ?_
  rintro e w3 ⟨vx, fx, okx, rfl, hb3, hx⟩
  have r1 := hb3.cell r0
  have hbw3 := hbw2.trans hb3
  clear r0 hb3 hbw2
  go_wp2_with fail
  refine (readL_is b w3 hsb).mono ?_
  rintro e w4 ⟨vy, fy, oky, rfl, hb4, hy⟩
  have r2 := hb4.cell r1
  have hbw4 := hbw3.trans hb4
  have hx4 : okx = true → ReadIs vx w4 := fun e => (hx e).later hb4
  clear r1 hbw3 hx hy hb4
  go_wp2_with fail
  refine (ldecode_is _ _).mono ?_
  rintro e w5 ⟨rfl, rfl⟩
  cases okx
  · clear hx4
    go_wp2
    go_ret
    exact hend.out _ _ hbw4
  · obtain ⟨pp, c, gen, Bx, E, rfl, hst, hok, hW, -⟩ := hx4 rfl
    have hI : ∀ x ∈ E, I64 x.2.1 ∧ I64 x.2.2 := fun x hx => ⟨(hW x hx).1.toI64, (hW x hx).2.toI64⟩
    have hi1 := fun wx (b : Bel w4 wx) => image_any pp c gen Bx E 1 wx (hst.later b) hok ⟨by decide, by decide⟩ hI
    have hi2 := fun wx (b : Bel w4 wx) => image_any pp c gen Bx E 2 wx (hst.later b) hok ⟨by decide, by decide⟩ hI
    obtain ⟨vB, vE, -, s6, -⟩ := hst
    clear hx4 hW hI hok
    go_wp2_with fail
    refine (hi1 _ (Bel.refl _)).mono ?_
    rintro e w6 ⟨m1, rfl, hb6, -⟩
    go_wp2_with fail
    refine (hi2 _ hb6).mono ?_
    rintro e w7 ⟨m2, rfl, hb7, -⟩
    have hb47 := hb6.trans hb7
    have t6 := hb47.cell s6
    have hbw7 := hbw4.trans hb47
    clear hi1 hi2 hb6 hb7 s6
    go_wp2
    all_goals
      go_ret
      exact hend.out _ _ (by (repeat (first | exact Bel.refl _ | assumption | refine Bel.step_alloc ?_ _ | refine Bel.step_drew ?_ | refine Bel.step_drewN ?_ _ | refine Bel.step_set ?_ (by simp <;> omega) _ | refine Bel.trans ?_ (by assumption))))

/-- what an image that can be read is, in blocks that are new -/
def ReadN (base : Nat) (v : Value) (w : World) : Prop := ∃ (p : Nat) (c : Cfg) (gen : Int) (B : List BK) (E : List EN), v = .pointer (some ⟨p, 0, none⟩) ∧ StateN base w p c gen B E ∧ StateOK c gen B E ∧ (∀ x ∈ E, W32 x.2.1 ∧ W32 x.2.2) ∧ E.length ≤ 65535
theorem ReadN.later {base : Nat} {v : Value} {w w' : World} (h : ReadN base v w) (b : Bel w w') : ReadN base v w' := by
  obtain ⟨p, c, gen, B, E, h1, h2, r⟩ := h
  exact ⟨p, c, gen, B, E, h1, h2.later b, r⟩
theorem StateN.from {base base' : Nat} {w : World} {p : Nat} {c : Cfg} {gen : Int} {B : List BK} {E : List EN} (h : StateN base w p c gen B E) (hb : base' ≤ base) : StateN base' w p c gen B E := by
  obtain ⟨vB, vE, h1, h2, h3, h4⟩ := h
  exact ⟨vB, vE, h1, Nat.le_trans hb h2, fun g hg => Nat.le_trans hb (h3 g hg), fun g hg => Nat.le_trans hb (h4 g hg)⟩
theorem ReadN.from {base base' : Nat} {v : Value} {w : World} (h : ReadN base v w) (hb : base' ≤ base) : ReadN base' v w := by
  obtain ⟨p, c, gen, B, E, h1, h2, r⟩ := h
  exact ⟨p, c, gen, B, E, h1, h2.from hb, r⟩
def RReadN (w : World) (e : Ending) (w' : World) : Prop := ∃ (v : Value) (f : Int) (ok : Bool), e = .returned (.tuple #[v, .int .i64 f, .bool ok]) ∧ Bel w w' ∧ (ok = true → ReadN w.heap.size v w')
theorem readN_is (s : ByteArray) (w : World) (hs : s.size ≤ 1099511627776) : Calls Tryz.prog 42 #[.string s] w (RReadN w) := by
  refine (read3_any s w hs).mono ?_
  rintro e w' ⟨v, f, ok, rfl, hb, h⟩
  refine ⟨v, f, ok, rfl, hb, fun h1 => ?_⟩
  obtain ⟨p, c, gen, B, E, r1, -, r2, r3, r4, -, -, -, r5⟩ := h h1
  exact ⟨p, c, gen, B, E, r1, r2, r3, r4, r5⟩
/-- what lies behind base stays, whatever the law writes into its own -/
def Kept (base : Nat) (w w' : World) : Prop := ∃ M, But M w w' ∧ ∀ j ∈ M, j < base
theorem StateN.kept {base : Nat} {w w' : World} {p : Nat} {c : Cfg} {gen : Int} {B : List BK} {E : List EN} (h : StateN base w p c gen B E) (k : Kept base w w') : StateN base w' p c gen B E := by
  obtain ⟨M, hb, hM⟩ := k
  have hout : ∀ j, base ≤ j → j ∉ M := fun j hj e => by have := hM j e; omega
  obtain ⟨vB, vE, ⟨⟨h0, h1, h2, h3, h4, h5⟩, h6, h7, h8, h9, h10⟩, r1, r2, r3⟩ := h
  have hp := hout p r1
  exact ⟨vB, vE, ⟨⟨hb.cell h0 hp, hb.cell h1 hp, hb.cell h2 hp, hb.cell h3 hp, hb.cell h4 hp, hb.cell h5 hp⟩, hb.cell h6 hp, hb.cell h7 hp, hb.cell h8 hp, RowAt.but h9 hb (fun g hg => hout g (r2 g hg)), RowAt.but h10 hb (fun g hg => hout g (r3 g hg))⟩, r1, r2, r3⟩
def RPutS (W0 : Base) (s p base : Nat) (w : World) (e : Ending) (w' : World) : Prop := e = .returned (.tuple #[]) ∧ (∃ x', WInv W0 s x' w' ∧ x'.p = p) ∧ Kept base w w'
theorem wput_st (W0 : Base) (s : Nat) (x : WG) (S : ByteArray) (w w0 : World) (h : WInv W0 s x w0) (b : Bel w0 w) (hs : s ≤ 150000) (hS : S.size ≤ 1099511627776) :
    Calls Tryz.prog 31 #[.pointer (some ⟨x.p, 0, none⟩), .string S] w (RPutS W0 (s + 1) x.p w0.heap.size w) := by
  have h0 := h
  have h := h.later b
  have hvp : x.vh.ownBlock ≠ some x.p := fun e => by
    have a1 : 1 ≤ x.vh.ownBlock.toList.count x.p := lcount_mem.1 (by simp [e])
    have a2 := WG.count x x.p
    have a3 := lnodup_le h.2.2.1 x.p
    have a4 := one_count x.p
    omega
  refine (lput_is W0.heap.size x.p x.H.length x.vh (x.H.map Value.string) S w (h.1.1 7 _ rfl) (h.1.2 7 (by simp [WG.cells])) h.2.2.2.2.2.2.2.1 (by have := h.2.2.2.2.2.2.2.2.2.2.2.1.2.1; omega) h.2.1.size hvp).mono ?_
  rintro e w' ⟨rfl, g, cap, w1, hb, rfl, hrow, hg⟩
  refine ⟨rfl, ⟨_, h.put hb hrow hg hS, rfl⟩, x.p :: x.vh.ownBlock.toList, (hb.mono (fun k hk => Or.inl (List.mem_cons_of_mem _ hk))).put (Or.inl (by simp)) _, fun j hj => ?_⟩
  have : j ∈ x.blocks := by
    rcases List.mem_cons.1 hj with rfl | hj
    · simp [WG.blocks]
    · exact lcount_mem.2 (by have := WG.count x j; have := lcount_mem.1 hj; omega)
  exact (h0.2.2.2.2.1 j (h0.2.2.2.1 j this)).2

set_option maxRecDepth 100000 in
set_option maxHeartbeats 2000000 in
theorem images_patch (W0 : Base) (s : Nat) (x : WG) (A B C : Int) (S : ByteArray) (w : World) (h : WInv W0 s x w) (hs : s ≤ 150000) (hA : I64 A) (hB : I64 B) :
    Calls Tryz.prog 23 #[.pointer (some ⟨x.p, 0, none⟩), opv 23 A B C S] w (RGo W0 x.p (s + 1)) := by
  have ha1 := fun wx (b : Bel w wx) => wat_is W0 s x A wx (h.later b) hs hA
  have ha2 := fun wx (b : Bel w wx) => wat_is W0 s x B wx (h.later b) hs hB
  have hpu := fun wx (b : Bel w wx) => wput_st W0 s x ByteArray.empty wx w h b hs (by decide)
  have hend : Hid (∀ wx (b : Bool), Bel w wx → RGo W0 x.p (s + 1) (.returned (.bool b)) wx) := fun wx b hb => ⟨b, rfl, x, (h.later hb).up (by omega), rfl⟩
  generalize x.p = p at *
  clear h
  have hwb : ∀ wx, Bel w wx → w.heap.size ≤ wx.heap.size := fun wx b => b.size
  unfold opv
  go_enter Tryz.func23, Tryz.ntmps23
  go_wp2_with fail
  obtain ⟨wo, hwo, hbo, o0, o1, o2, o3, o4⟩ := op_box w (.int .i64 23) (.int .i64 A) (.int .i64 B) (.int .i64 C) (.string S) 28
  rw [hwo]
  clear hwo
  generalize hpo : w.heap.size = po at o0 o1 o2 o3 o4 ⊢
  clear hpo
  refine (ha1 _ hbo).mono ?_
  rintro e w1 ⟨a, rfl, hb1, hsa⟩
  have q2 := hb1.cell o2
  have q0 := hb1.cell o0
  have hbw1 := hbo.trans hb1
  clear ha1 o0 o1 o2 o3 o4 hb1 hbo
  go_wp2_with fail
  refine (ha2 _ hbw1).mono ?_
  rintro e w2 ⟨b, rfl, hb2, hsb⟩
  have r0 := hb2.cell q0
  have hbw2 := hbw1.trans hb2
  clear ha2 q0 q2 hb2
  go_wp2_with fail
  refine (readN_is a w2 hsa).mono ?_
  rintro e w3 ⟨vx, fx, okx, rfl, hb3, hx⟩
  have r1 := hb3.cell r0
  have hbw3 := hbw2.trans hb3
  clear r0
  go_wp2_with fail
  refine (readN_is b w3 hsb).mono ?_
  rintro e w4 ⟨vy, fy, oky, rfl, hb4, hy⟩
  have r2 := hb4.cell r1
  have hbw4 := hbw3.trans hb4
  have hx4 : okx = true → ReadN w.heap.size vx w4 := fun e => ((hx e).from hbw2.size).later hb4
  have hy4 : oky = true → ReadN w.heap.size vy w4 := fun e => (hy e).from hbw3.size
  clear r1 hx hy hb4 hb3 hbw1 hbw2 hbw3 hwb
  go_wp2_with fail
  refine (lpatch_is _ _ _).mono ?_
  rintro e w5 ⟨rfl, rfl⟩
  cases okx
  · clear hx4 hy4 hpu
    go_wp2_with fail
    go_quiet (fail)
    go_wp2
    all_goals
      go_ret
      exact hend.out _ _ (by (repeat (first | exact Bel.refl _ | assumption | refine Bel.step_alloc ?_ _ | refine Bel.step_drew ?_ | refine Bel.step_drewN ?_ _ | refine Bel.step_set ?_ (by simp <;> omega) _ | refine Bel.trans ?_ (by assumption))))
  · cases oky
    · clear hx4 hy4 hpu
      go_wp2_with fail
      go_quiet (fail)
      go_wp2
      all_goals
        go_ret
        exact hend.out _ _ (by (repeat (first | exact Bel.refl _ | assumption | refine Bel.step_alloc ?_ _ | refine Bel.step_drew ?_ | refine Bel.step_drewN ?_ _ | refine Bel.step_set ?_ (by simp <;> omega) _ | refine Bel.trans ?_ (by assumption))))
    · obtain ⟨px, cx, gx, Bx, Ex, rfl, hsx, hox, hWx, -⟩ := hx4 rfl
      obtain ⟨py, cy, gy, By, Ey, rfl, hsy, hoy, hWy, -⟩ := hy4 rfl
      obtain ⟨vBx, vEx, ⟨⟨x0, x1, x2, x3, x4, x5⟩, -⟩, -⟩ := id hsx
      obtain ⟨vBy, vEy, ⟨⟨y0, y1, y2, y3, y4, y5⟩, -⟩, -⟩ := id hsy
      have hne := neq_cfg cx cy
      have hlx := World.block_lt_of_cell? w4 _ x0
      have hly := World.block_lt_of_cell? w4 _ y0
      generalize cfgNe cx cy = ne at *
      have HSX := Hid.mk hsx
      have HSY := Hid.mk hsy
      clear hx4 hy4 hsx hsy
      cases ne
      · go_wp2_with fail
        go_quiet (fail)
        go_wp2_with fail
        refine (hpu _ (hbw4.trans (by (repeat (first | exact Bel.refl _ | assumption | refine Bel.step_alloc ?_ _ | refine Bel.step_drew ?_ | refine Bel.step_drewN ?_ _ | refine Bel.step_set ?_ (by simp <;> omega) _ | refine Bel.trans ?_ (by assumption)))))).mono ?_
        rintro e w6 ⟨rfl, ⟨x2', h2, hp2⟩, hk6⟩
        have hk46 : Kept w.heap.size w4 w6 := by
          obtain ⟨M, hb, hM⟩ := hk6
          exact ⟨M, (But.of_bel (by (repeat (first | exact Bel.refl _ | assumption | refine Bel.step_alloc ?_ _ | refine Bel.step_drew ?_ | refine Bel.step_drewN ?_ _ | refine Bel.step_set ?_ (by simp <;> omega) _ | refine Bel.trans ?_ (by assumption))))).trans hb, hM⟩
        have hpa := patch_any px py cx cy gx gy Bx By Ex Ey w6 (HSX.out.kept hk46).state hox hWx (HSY.out.kept hk46).state hoy hWy
        have H2 : Hid (∀ wx (b : Bool), Bel w6 wx → RGo W0 p (s + 1) (.returned (.bool b)) wx) := fun wx b hb => ⟨b, rfl, x2', h2.later hb, hp2⟩
        clear h2 hk6 hk46 HSX HSY hpu hend
        go_wp2_with fail
        refine hpa.mono ?_
        rintro e w7 ⟨m, rfl, hb7, -⟩
        clear hpa
        go_wp2
        all_goals
          go_ret
          exact H2.out _ _ (by (repeat (first | exact Bel.refl _ | assumption | refine Bel.step_alloc ?_ _ | refine Bel.step_drew ?_ | refine Bel.step_drewN ?_ _ | refine Bel.step_set ?_ (by simp <;> omega) _ | refine Bel.trans ?_ (by assumption))))
      · clear hpu HSX HSY
        go_wp2_with fail
        go_quiet (fail)
        go_wp2
        all_goals
          go_ret
          exact hend.out _ _ (by (repeat (first | exact Bel.refl _ | assumption | refine Bel.step_alloc ?_ _ | refine Bel.step_drew ?_ | refine Bel.step_drewN ?_ _ | refine Bel.step_set ?_ (by simp <;> omega) _ | refine Bel.trans ?_ (by assumption))))

set_option maxRecDepth 100000 in
set_option maxHeartbeats 2000000 in
theorem images_apply (W0 : Base) (s : Nat) (x : WG) (A B C : Int) (S : ByteArray) (w : World) (h : WInv W0 s x w) (hs : s ≤ 150000) (hA : I64 A) (hB : I64 B) :
    Calls Tryz.prog 23 #[.pointer (some ⟨x.p, 0, none⟩), opv 24 A B C S] w (RGo W0 x.p (s + 1)) := by
  have ha1 := fun wx (b : Bel w wx) => wat_is W0 s x A wx (h.later b) hs hA
  have ha2 := fun wx (b : Bel w wx) => wat_is W0 s x B wx (h.later b) hs hB
  have hpu := fun wx (b : Bel w wx) => wput_st W0 s x ByteArray.empty wx w h b hs (by decide)
  have hend : Hid (∀ wx (b : Bool), Bel w wx → RGo W0 x.p (s + 1) (.returned (.bool b)) wx) := fun wx b hb => ⟨b, rfl, x, (h.later hb).up (by omega), rfl⟩
  generalize x.p = p at *
  clear h
  have hwb : ∀ wx, Bel w wx → w.heap.size ≤ wx.heap.size := fun wx b => b.size
  unfold opv
  go_enter Tryz.func23, Tryz.ntmps23
  go_wp2_with fail
  obtain ⟨wo, hwo, hbo, o0, o1, o2, o3, o4⟩ := op_box w (.int .i64 24) (.int .i64 A) (.int .i64 B) (.int .i64 C) (.string S) 28
  rw [hwo]
  clear hwo
  generalize hpo : w.heap.size = po at o0 o1 o2 o3 o4 ⊢
  clear hpo
  refine (ha1 _ hbo).mono ?_
  rintro e w1 ⟨a, rfl, hb1, hsa⟩
  have q2 := hb1.cell o2
  have q0 := hb1.cell o0
  have hbw1 := hbo.trans hb1
  clear ha1 o0 o1 o2 o3 o4 hb1 hbo
  go_wp2_with fail
  refine (ha2 _ hbw1).mono ?_
  rintro e w2 ⟨b, rfl, hb2, hsb⟩
  have r0 := hb2.cell q0
  have hbw2 := hbw1.trans hb2
  clear ha2 q0 q2 hb2
  go_wp2_with fail
  refine (readN_is a w2 hsa).mono ?_
  rintro e w3 ⟨vx, fx, okx, rfl, hb3, hx⟩
  have r1 := hb3.cell r0
  have hbw3 := hbw2.trans hb3
  clear r0
  go_wp2_with fail
  refine (readN_is b w3 hsb).mono ?_
  rintro e w4 ⟨vy, fy, oky, rfl, hb4, hy⟩
  have r2 := hb4.cell r1
  have hbw4 := hbw3.trans hb4
  have hx4 : okx = true → ReadN w.heap.size vx w4 := fun e => ((hx e).from hbw2.size).later hb4
  have hy4 : oky = true → ReadN w.heap.size vy w4 := fun e => (hy e).from hbw3.size
  clear r1 hx hy hb4 hb3 hbw1 hbw2 hbw3 hwb
  go_wp2_with fail
  refine (lapply_is _ _ _).mono ?_
  rintro e w5 ⟨rfl, rfl⟩
  cases oky
  · clear hx4 hy4 hpu
    go_wp2
    all_goals
      go_ret
      exact hend.out _ _ (by (repeat (first | exact Bel.refl _ | assumption | refine Bel.step_alloc ?_ _ | refine Bel.step_drew ?_ | refine Bel.step_drewN ?_ _ | refine Bel.step_set ?_ (by simp <;> omega) _ | refine Bel.trans ?_ (by assumption))))
  · obtain ⟨py, cy, gy, By, Ey, rfl, hsy, hoy, hWy, hly⟩ := hy4 rfl
    have hap := apply_any a py cy gy By Ey w4 hsa hsy.state hoy hWy hly
    clear hx4 hy4 hsy
    go_wp2_with fail
    refine hap.mono ?_
    rintro e w6 ⟨vm, err, rfl, hb6, hm⟩
    have hbw6 := hbw4.trans hb6
    clear hap
    by_cases he : err = 0
    · subst he
      obtain ⟨q, c, gen, Bm, Em, rfl, hsm, hom, hWm⟩ := hm rfl
      have hsm' := hsm.from hbw4.size
      have HSM := Hid.mk hsm'
      clear hm hsm hsm'
      go_wp2_with fail
      refine (hpu _ hbw6).mono ?_
      rintro e w7 ⟨rfl, ⟨x2', h2, hp2⟩, hk7⟩
      have hi1 := image_any q c gen Bm Em 1 w7 (HSM.out.kept hk7).state hom ⟨by decide, by decide⟩ (fun x hx => ⟨(hWm x hx).1.toI64, (hWm x hx).2.toI64⟩)
      have H2 : Hid (∀ wx (b : Bool), Bel w7 wx → RGo W0 p (s + 1) (.returned (.bool b)) wx) := fun wx b hb => ⟨b, rfl, x2', h2.later hb, hp2⟩
      clear h2 hk7 HSM hpu hend
      go_wp2_with fail
      refine hi1.mono ?_
      rintro e w8 ⟨m, rfl, hb8, -⟩
      clear hi1
      go_wp2
      all_goals
        go_ret
        exact H2.out _ _ (by (repeat (first | exact Bel.refl _ | assumption | refine Bel.step_alloc ?_ _ | refine Bel.step_drew ?_ | refine Bel.step_drewN ?_ _ | refine Bel.step_set ?_ (by simp <;> omega) _ | refine Bel.trans ?_ (by assumption))))
    · have heb : (err != 0) = true := by rw [bne_iff_ne]; exact he
      clear hm hpu
      go_wp2
      all_goals
        go_ret
        exact hend.out _ _ (by (repeat (first | exact Bel.refl _ | assumption | refine Bel.step_alloc ?_ _ | refine Bel.step_drew ?_ | refine Bel.step_drewN ?_ _ | refine Bel.step_set ?_ (by simp <;> omega) _ | refine Bel.trans ?_ (by assumption))))

end Go.Proofs.YtgfildmmcbjpnabGreat
