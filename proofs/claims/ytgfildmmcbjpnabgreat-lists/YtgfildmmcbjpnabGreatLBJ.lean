import Derived.Test.YtgfildmmcbjpnabGreatLAU
import Derived.Test.YtgfildmmcbjpnabGreatLAZ
import Derived.Test.YtgfildmmcbjpnabGreatLBI
namespace Go.Proofs.YtgfildmmcbjpnabGreat
open Go.RowKit

/-- a step in its box -/
theorem op_box (w : World) (a b c d e : Value) (t : TypeId) : ∃ wo, w.alloc (.cells #[a, b, c, d, e] t) = wo ∧ Bel w wo ∧ (wo.cell? ⟨w.heap.size, 0, none⟩ = some a ∧ wo.cell? ⟨w.heap.size, 1, none⟩ = some b ∧ wo.cell? ⟨w.heap.size, 2, none⟩ = some c ∧ wo.cell? ⟨w.heap.size, 3, none⟩ = some d ∧ wo.cell? ⟨w.heap.size, 4, none⟩ = some e) :=
  ⟨_, rfl, Bel.step_alloc (Bel.refl w) _, by simp, by simp, by simp, by simp, by simp⟩
/-- the law's world goes on, and this service is what it was -/
def ROnY (W0 : Base) (s p : Nat) (M : List Nat) (y : PrG) (w : World) (e : Ending) (w' : World) : Prop := e = .returned (.tuple #[]) ∧ (∃ x', WInv W0 s x' w' ∧ x'.p = p ∧ y.At W0.heap.size x'.M w') ∧ ∀ (a : Addr) (v : Value), a.block ∉ M → w.cell? a = some v → w'.cell? a = some v
theorem wput_y (W0 : Base) (s : Nat) (x : WG) (k : Nat) (hk : k < x.prs.length) (S : ByteArray) (w : World) (h : WInv W0 s x w) (hs : s ≤ 150000) (hS : S.size ≤ 1099511627776) :
    Calls Tryz.prog 31 #[.pointer (some ⟨x.p, 0, none⟩), .string S] w (ROnY W0 (s + 1) x.p x.M x.prs[k] w) := by
  refine (wput_same W0 s x S w h hs hS).mono ?_
  rintro e w' ⟨rfl, ⟨x', h', hp, hprs⟩, hfr⟩
  have := h'.pair_at k (by rw [hprs]; exact hk)
  simp only [hprs] at this
  exact ⟨rfl, ⟨x', h', hp, this⟩, hfr⟩
theorem HasAt.form {w : World} {v : Value} {gen : Int} (h : HasAt w v gen) : v = .pointer none ∨ ∃ q c B E, v = .pointer (some ⟨q, 0, none⟩) ∧ StateAt w q c gen B E ∧ StateOK c gen B E ∧ ∀ x ∈ E, W32 x.2.1 ∧ W32 x.2.2 := by
  rcases h with ⟨h, -⟩ | h
  · exact Or.inl h
  · exact Or.inr h

set_option maxRecDepth 100000 in
set_option maxHeartbeats 1000000 in
theorem tables_image (W0 : Base) (s : Nat) (x : WG) (k : Nat) (hk : k < x.prs.length) (A B C : Int) (S : ByteArray) (w : World) (h : WInv W0 s x w) (hs : s ≤ 150000) (hB : I64 B) :
    Calls Tryz.prog 27 #[.pointer (some ⟨x.p, 0, none⟩), .pointer (some ⟨(x.prs[k]).a, 0, none⟩), opv 8 A B C S] w (RGo W0 x.p (s + 1)) := by
  have hat := h.pair_at k hk
  have hput := fun wx (b : Bel w wx) => wput_y W0 s x k hk ByteArray.empty wx (h.later b) hs (by decide)
  have hend : ∀ wx (b : Bool), Bel w wx → Hid (RGo W0 x.p (s + 1) (.returned (.bool b)) wx) := fun wx b hb => ⟨b, rfl, x, (h.later hb).up (by omega), rfl⟩
  have hpoM : w.heap.size ∉ x.M := fun e => by have := (h.2.2.2.2.1 _ e).2; omega
  generalize x.M = M0 at *
  generalize x.prs[k] = y at *
  have c0 := hat.1.1 0 _ rfl
  have c8 := hat.1.1 8 _ rfl
  have HV := Hid.mk hat.2.2.2.2.2.2.1.unmask
  generalize x.p = p at *
  have hal := World.block_lt_of_cell? w _ c0
  simp only at hal
  have haw : ∀ wx, Bel w wx → y.a < wx.heap.size := fun wx b => Nat.lt_of_lt_of_le hal b.size
  clear hat h
  unfold opv
  go_enter Tryz.func27, Tryz.ntmps27
  go_wp2_with fail
  obtain ⟨wo, hwo, hbo, o0, o1, o2, o3, o4⟩ := op_box w (.int .i64 8) (.int .i64 A) (.int .i64 B) (.int .i64 C) (.string S) 28
  rw [hwo]
  clear hwo
  have k0 := hbo.cell c0
  have k8 := hbo.cell c8
  generalize w.heap.size = po at o0 o1 o2 o3 o4 hpoM ⊢
  go_region_held3 (fun w' => Bel wo w' ∧ w'.cell? ⟨y.a, 0, none⟩ = some (.pointer (some ⟨y.q, 0, none⟩)) ∧ w'.cell? ⟨po, 2, none⟩ = some (.int .i64 B)) ((exact ⟨by (repeat (first | exact Bel.refl _ | assumption | refine Bel.step_alloc ?_ _ | refine Bel.step_drew ?_ | refine Bel.step_drewN ?_ _ | refine Bel.step_set ?_ (by simp <;> omega) _ | refine Bel.trans ?_ (by assumption))), Bel.cell (a := wo) (by (repeat (first | exact Bel.refl _ | assumption | refine Bel.step_alloc ?_ _ | refine Bel.step_drew ?_ | refine Bel.step_drewN ?_ _ | refine Bel.step_set ?_ (by simp <;> omega) _ | refine Bel.trans ?_ (by assumption)))) k0, Bel.cell (a := wo) (by (repeat (first | exact Bel.refl _ | assumption | refine Bel.step_alloc ?_ _ | refine Bel.step_drew ?_ | refine Bel.step_drewN ?_ _ | refine Bel.step_set ?_ (by simp <;> omega) _ | refine Bel.trans ?_ (by assumption)))) o2⟩)) ((go_at_call 53; refine (limage_is _ _ _).mono ?_; rintro e w1 ⟨rfl, rfl⟩))
  have hbw1 : Bel w wo.drew := hbo.step_drew
  have k8 := (Bel.refl wo).step_drew.cell k8
  have o2' := (Bel.refl wo).step_drew.cell o2
  have haw1 := haw _ hbw1
  generalize wo.drew = w1 at *
  clear o0 o1 o2 o3 o4 k0 hbo c0 c8 haw hal
  by_cases hf : B < 1 ∨ 2 < B
  · have hbb : (decide (B < 1) || decide (2 < B)) = true := by simpa using hf
    clear hput HV
    go_wp2
    all_goals
      go_ret
      exact (hend _ _ (by (repeat (first | exact Bel.refl _ | assumption | refine Bel.step_alloc ?_ _ | refine Bel.step_drew ?_ | refine Bel.step_drewN ?_ _ | refine Bel.step_set ?_ (by simp <;> omega) _ | refine Bel.trans ?_ (by assumption))))).out
  · have hbb : (decide (B < 1) || decide (2 < B)) = false := by simpa using hf
    rcases HV.out with ⟨hv, -⟩ | ⟨q, E, hv, hst, hok, hW, -, -⟩
    · rw [hv] at k8
      clear hput HV
      go_wp2
      go_ret
      exact (hend _ _ (by (repeat (first | exact Bel.refl _ | assumption | refine Bel.step_alloc ?_ _ | refine Bel.step_drew ?_ | refine Bel.step_drewN ?_ _ | refine Bel.step_set ?_ (by simp <;> omega) _ | refine Bel.trans ?_ (by assumption))))).out
    · rw [hv] at k8
      have hst1 := hst.later hbw1
      clear hst HV
      go_wp2_with fail
      refine (hput _ (by (repeat (first | exact Bel.refl _ | assumption | refine Bel.step_alloc ?_ _ | refine Bel.step_drew ?_ | refine Bel.step_drewN ?_ _ | refine Bel.step_set ?_ (by simp <;> omega) _ | refine Bel.trans ?_ (by assumption))))).mono ?_
      rintro e w2 ⟨rfl, ⟨x2, h2, hp2, hy2⟩, hfr⟩
      have d2 := hfr ⟨po, 2, none⟩ _ hpoM o2'
      have c8 := hy2.1.1 8 _ rfl
      have hv2 := hy2.2.2.2.2.2.2.1.unmask
      rw [hv] at c8 hv2
      rcases hv2 with ⟨hv3, -⟩ | ⟨q2, E2, hv3, hst2, hok2, hW2, -, -⟩
      · cases hv3
      simp only [Value.pointer.injEq, Option.some.injEq, Addr.mk.injEq, and_true] at hv3
      subst hv3
      have him := fun wx (b : Bel w2 wx) => image_any q y.c y.g y.B E2 B wx (hst2.later b) hok2 hB (fun x hx => ⟨(hW2 x hx).1.toI64, (hW2 x hx).2.toI64⟩)
      have H2 : Hid (∀ wx (b : Bool), Bel w2 wx → RGo W0 p (s + 1) (.returned (.bool b)) wx) := fun wx b hb => ⟨b, rfl, x2, h2.later hb, hp2⟩
      clear h2 hy2 hst2 hW2 hfr hput hst1 k8
      go_wp2_with fail
      go_region_held3 (fun w' => Bel w2 w' ∧ w'.cell? ⟨y.a, 8, none⟩ = some (.pointer (some ⟨q, 0, none⟩)) ∧ w'.cell? ⟨po, 2, none⟩ = some (.int .i64 B)) ((exact ⟨by (repeat (first | exact Bel.refl _ | assumption | refine Bel.step_alloc ?_ _ | refine Bel.step_drew ?_ | refine Bel.step_drewN ?_ _ | refine Bel.step_set ?_ (by simp <;> omega) _ | refine Bel.trans ?_ (by assumption))), Bel.cell (a := w2) (by (repeat (first | exact Bel.refl _ | assumption | refine Bel.step_alloc ?_ _ | refine Bel.step_drew ?_ | refine Bel.step_drewN ?_ _ | refine Bel.step_set ?_ (by simp <;> omega) _ | refine Bel.trans ?_ (by assumption)))) c8, Bel.cell (a := w2) (by (repeat (first | exact Bel.refl _ | assumption | refine Bel.step_alloc ?_ _ | refine Bel.step_drew ?_ | refine Bel.step_drewN ?_ _ | refine Bel.step_set ?_ (by simp <;> omega) _ | refine Bel.trans ?_ (by assumption)))) d2⟩)) ((go_at_call 44; refine (him _ (by (repeat (first | exact Bel.refl _ | assumption | refine Bel.step_alloc ?_ _ | refine Bel.step_drew ?_ | refine Bel.step_drewN ?_ _ | refine Bel.step_set ?_ (by simp <;> omega) _ | refine Bel.trans ?_ (by assumption))))).mono ?_; rintro e w3 ⟨m, rfl, hb3, -⟩))
      have hb23 : Bel w2 w3 := by (repeat (first | exact Bel.refl _ | assumption | refine Bel.step_alloc ?_ _ | refine Bel.step_drew ?_ | refine Bel.step_drewN ?_ _ | refine Bel.step_set ?_ (by simp <;> omega) _ | refine Bel.trans ?_ (by assumption)))
      clear him
      go_wp2
      go_ret
      exact H2.out _ _ (by (repeat (first | exact Bel.refl _ | assumption | refine Bel.step_alloc ?_ _ | refine Bel.step_drew ?_ | refine Bel.step_drewN ?_ _ | refine Bel.step_set ?_ (by simp <;> omega) _ | refine Bel.trans ?_ (by assumption))))

/-- the law's world goes on; the answer was right -/
def RYes (W0 : Base) (p s : Nat) (e : Ending) (w' : World) : Prop := e = .returned (.bool true) ∧ ∃ x, WInv W0 s x w' ∧ x.p = p
theorem RYes.go {W0 : Base} {p s : Nat} {e : Ending} {w' : World} (h : RYes W0 p s e w') : RGo W0 p s e w' := ⟨true, h.1, h.2⟩
theorem RKeep.y {W0 : Base} {s : Nat} {x : WG} {v : Value} {T : List ByteArray} {e : Ending} {w' : World} (h : RKeep W0 s x v T e w') (k : Nat) (hk : k < x.prs.length) : e = .returned (.tuple #[]) ∧ ∃ x', WInv W0 (s + 1) x' w' ∧ x'.p = x.p ∧ (x.prs[k]).At W0.heap.size x'.M w' ∧ RowAt w' v T.length (T.map Value.string) := by
  obtain ⟨he, x', h', hp, hprs, hr⟩ := h
  have := h'.pair_at k (by rw [hprs]; exact hk)
  simp only [hprs] at this
  exact ⟨he, x', h', hp, this, hr⟩

theorem nil_nil (w : World) : (binOp .eql 36 (.slice none 0 0) (.slice none 0 0)).run Tryz.prog w = .ok (.bool true) w := by kernel_rfl
theorem nil_some (w : World) (a : Addr) (n c : Nat) : (binOp .eql 36 (.slice (some a) n c) (.slice none 0 0)).run Tryz.prog w = .ok (.bool false) w := by kernel_rfl
/-- a list was kept, and this service is what it was -/
def RKY (W0 : Base) (s p : Nat) (y : PrG) (v : Value) (T : List ByteArray) (e : Ending) (w' : World) : Prop := e = .returned (.tuple #[]) ∧ ∃ x', WInv W0 s x' w' ∧ x'.p = p ∧ y.At W0.heap.size x'.M w' ∧ RowAt w' v T.length (T.map Value.string)
theorem wkeep_y (W0 : Base) (s : Nat) (x : WG) (k : Nat) (hk : k < x.prs.length) (v : Value) (T : List ByteArray) (w0 w : World) (h : WInv W0 s x w0) (hbel : Bel w0 w) (hT : OwnT w0.heap.size w v T) (hT1 : T.length ≤ 65536) (hs : s ≤ 150000) (hnil : T = [] → v = .slice none 0 0) (hcons : T ≠ [] → ∃ g, v = .slice (some ⟨g, 0, none⟩) T.length T.length) :
    Calls Tryz.prog 54 #[.pointer (some ⟨x.p, 0, none⟩), v] w (RKY W0 (s + 1) x.p x.prs[k] v T) := by
  by_cases hn : T = []
  · have hv := hnil hn
    subst hv
    refine (lkeep_nil x.p w).mono ?_
    rintro e w' ⟨rfl, rfl⟩
    exact ⟨rfl, x, (h.later hbel).up (by omega), rfl, (h.later hbel).pair_at k hk, RowAt.of_owns hT⟩
  · obtain ⟨g, rfl⟩ := hcons hn
    refine (wkeep_is W0 s x g T w0 w h hbel hT hT1 hs).mono ?_
    intro e w' hr
    exact hr.y k hk
/-- the list that a service hands out, held against the document's -/
theorem slots_same {y : PrG} {base : Nat} {M : List Nat} {w : World} (h : y.At base M w) : (y.vs = .pointer none ∧ y.g = 0 ∧ namesF y.B (mkF y.c y.B) = []) ∨ ∃ q E, y.vs = .pointer (some ⟨q, 0, none⟩) ∧ StateAt w q y.c y.g y.B E ∧ StateOK y.c y.g y.B E ∧ (∀ x ∈ E, W32 x.2.1 ∧ W32 x.2.2) ∧ TabEq y.c y.B E ∧ y.g ≠ 0 := by
  rcases h.2.2.2.2.2.2.1.unmask with ⟨h1, h2⟩ | ⟨q, E, h1, h2, h3, h4, h5, h6⟩
  · refine Or.inl ⟨h1, h2, ?_⟩
    rw [h.2.2.2.2.2.1.2.2 h2, mkF_nil]
    rfl
  · exact Or.inr ⟨q, E, h1, h2, h3, h4, h5, h6⟩

set_option maxRecDepth 100000 in
set_option maxHeartbeats 1000000 in
theorem tables_slots (W0 : Base) (s : Nat) (x : WG) (k : Nat) (hk : k < x.prs.length) (A B C : Int) (S : ByteArray) (w : World) (h : WInv W0 s x w) (hs : s ≤ 150000) :
    Calls Tryz.prog 27 #[.pointer (some ⟨x.p, 0, none⟩), .pointer (some ⟨(x.prs[k]).a, 0, none⟩), opv 9 A B C S] w (RYes W0 x.p (s + 1)) := by
  have hat := h.pair_at k hk
  have hmk := lmkF_len (x.prs[k]).c (x.prs[k]).B hat.2.2.2.2.1 hat.2.2.2.1.1
  have hsl := fun wx (b : Bel w wx) => slots_is x.M (x.prs[k]).q (x.prs[k]).c (x.prs[k]).B (x.prs[k]).g wx (hat.2.1.later b) hmk
  have hkp := fun v wx (b : Bel w wx) (hT : OwnT w.heap.size wx v (namesF (x.prs[k]).B (mkF (x.prs[k]).c (x.prs[k]).B))) => wkeep_y W0 s x k hk v _ w wx h b hT (by rw [namesF, List.length_map]; exact hmk) hs
  generalize x.M = M0 at *
  generalize x.prs[k] = y at *
  generalize x.p = p at *
  obtain ⟨T, hT⟩ : ∃ T, T = namesF y.B (mkF y.c y.B) := ⟨_, rfl⟩
  have HT := Hid.mk hT
  rw [← hT] at hsl hkp
  have hTl : T.length ≤ 65536 := by rw [hT, namesF, List.length_map]; exact hmk
  have c0 := hat.1.1 0 _ rfl
  have hal := World.block_lt_of_cell? w _ c0
  simp only at hal
  clear hat h hT hmk
  unfold opv
  go_enter Tryz.func27, Tryz.ntmps27
  go_wp2_with fail
  refine (hsl _ (by (repeat (first | exact Bel.refl _ | assumption | refine Bel.step_alloc ?_ _ | refine Bel.step_drew ?_ | refine Bel.step_drewN ?_ _ | refine Bel.step_set ?_ (by simp <;> omega) _ | refine Bel.trans ?_ (by assumption))))).mono ?_
  rintro e w1 ⟨v, rfl, hb1, hO, hnil, hcons⟩
  have hbw1 : Bel w w1 := (Bel.step_alloc (Bel.refl w) _).trans hb1
  have hk1 := hkp v w1 hbw1 (World.ownsRow.mono hO (by simp)) hnil hcons
  clear hkp hsl hO hb1 c0
  by_cases hn : T = []
  · have hv := hnil hn
    subst hv
    clear hnil hcons
    go_wp2_with fail
    refine hk1.mono ?_
    rintro e w2 ⟨rfl, x2, h2, hp2, hy2, hr2⟩
    have c0 := hy2.1.1 0 _ rfl
    have c8 := hy2.1.1 8 _ rfl
    have hgn := gen_is x2.M y.q y.c y.B y.g w2 hy2.2.1
    have hcase := slots_same hy2
    have H2 : Hid (∀ wx, Bel w2 wx → RYes W0 p (s + 1) (.returned (.bool true)) wx) := fun wx hb => ⟨rfl, x2, h2.later hb, hp2⟩
    clear h2 hy2 hk1
    go_wp2_with fail
    refine hgn.mono ?_
    rintro e w3 ⟨rfl, rfl⟩
    clear hgn
    rcases hcase with ⟨hv, hg, -⟩ | ⟨q, E, hv, hst, hok, -, hte, -⟩
    · rw [hv] at c8
      rw [hg]
      have hn1 := nil_nil
      go_wp2
      go_ret
      exact H2.out _ (by (repeat (first | exact Bel.refl _ | assumption | refine Bel.step_alloc ?_ _ | refine Bel.step_drew ?_ | refine Bel.step_drewN ?_ _ | refine Bel.step_set ?_ (by simp <;> omega) _ | refine Bel.trans ?_ (by assumption))))
    · rw [hv] at c8
      have hsr := drslots_is q y.c y.g y.B E w2 hst hok.2.2.2.1
      rw [hte.names, ← HT.out, hn] at hsr
      obtain ⟨vB, vE, -, s6, -⟩ := hst
      clear hr2
      go_wp2_with fail
      refine hsr.mono ?_
      rintro e w3 ⟨vm, rfl, hb3, hM⟩
      have d8 := hb3.cell c8
      have t6 := hb3.cell s6
      have hsm := fun wx (b : Bel w3 wx) => lsame_is [] [] (.slice none 0 0) vm wx (Or.inl ⟨rfl, rfl, rfl⟩) (RowAt.later hM b) (by decide) (by decide)
      clear hsr
      go_wp2_with fail
      refine (hsm _ (by (repeat (first | exact Bel.refl _ | assumption | refine Bel.step_alloc ?_ _ | refine Bel.step_drew ?_ | refine Bel.step_drewN ?_ _ | refine Bel.step_set ?_ (by simp <;> omega) _ | refine Bel.trans ?_ (by assumption))))).mono ?_
      rintro e w4 ⟨b, rfl, hb4, hb⟩
      obtain rfl : b = true := by first | exact hb.2 rfl | exact hb.2 trivial
      have e8 := hb4.cell d8
      have u6 := hb4.cell t6
      have hn1 := nil_nil
      have hn2 := nil_some
      clear hsm hb
      go_wp2
      go_ret
      exact H2.out _ (by (repeat (first | exact Bel.refl _ | assumption | refine Bel.step_alloc ?_ _ | refine Bel.step_drew ?_ | refine Bel.step_drewN ?_ _ | refine Bel.step_set ?_ (by simp <;> omega) _ | refine Bel.trans ?_ (by assumption))))
  · obtain ⟨gl, rfl⟩ := hcons hn
    clear hnil hcons
    have hTn : T.length ≠ 0 := fun e => hn (List.eq_nil_of_length_eq_zero e)
    have hTb : ((T.length : Int) == 0) = false := by rw [beq_eq_false_iff_ne]; omega
    go_wp2_with fail
    refine hk1.mono ?_
    rintro e w2 ⟨rfl, x2, h2, hp2, hy2, hr2⟩
    have c0 := hy2.1.1 0 _ rfl
    have c8 := hy2.1.1 8 _ rfl
    have hgn := gen_is x2.M y.q y.c y.B y.g w2 hy2.2.1
    have hcase := slots_same hy2
    have H2 : Hid (∀ wx, Bel w2 wx → RYes W0 p (s + 1) (.returned (.bool true)) wx) := fun wx hb => ⟨rfl, x2, h2.later hb, hp2⟩
    clear h2 hy2 hk1
    go_wp2_with fail
    refine hgn.mono ?_
    rintro e w3 ⟨rfl, rfl⟩
    clear hgn
    rcases hcase with ⟨hv, hg, hnm⟩ | ⟨q, E, hv, hst, hok, -, hte, -⟩
    · exact absurd (HT.out.trans hnm) hn
    · rw [hv] at c8
      have hsr := drslots_is q y.c y.g y.B E w2 hst hok.2.2.2.1
      rw [hte.names, ← HT.out] at hsr
      obtain ⟨vB, vE, -, s6, -⟩ := hst
      go_wp2_with fail
      refine hsr.mono ?_
      rintro e w3 ⟨vm, rfl, hb3, hM⟩
      have d8 := hb3.cell c8
      have t6 := hb3.cell s6
      have hsm := fun wx (b : Bel w3 wx) => lsame_is T T (.slice (some ⟨gl, 0, none⟩) T.length T.length) vm wx (hr2.later (hb3.trans b)) (RowAt.later hM b) hTl hTl
      clear hsr hr2
      go_wp2_with fail
      refine (hsm _ (by (repeat (first | exact Bel.refl _ | assumption | refine Bel.step_alloc ?_ _ | refine Bel.step_drew ?_ | refine Bel.step_drewN ?_ _ | refine Bel.step_set ?_ (by simp <;> omega) _ | refine Bel.trans ?_ (by assumption))))).mono ?_
      rintro e w4 ⟨b, rfl, hb4, hb⟩
      obtain rfl : b = true := by first | exact hb.2 rfl | exact hb.2 trivial
      have e8 := hb4.cell d8
      have u6 := hb4.cell t6
      have hn1 := nil_nil
      have hn2 := nil_some
      clear hsm hb
      go_wp2
      go_ret
      exact H2.out _ (by (repeat (first | exact Bel.refl _ | assumption | refine Bel.step_alloc ?_ _ | refine Bel.step_drew ?_ | refine Bel.step_drewN ?_ _ | refine Bel.step_set ?_ (by simp <;> omega) _ | refine Bel.trans ?_ (by assumption))))

end Go.Proofs.YtgfildmmcbjpnabGreat

namespace Go.Proofs.YtgfildmmcbjpnabGreat
open Go.RowKit

/-- how far behind H entry i lies -/
def dE (E : List EN) (H : Int) (i : Nat) : Int := match E[i]? with
  | some x => subW (wv x.2.1 x.2.2) H
  | none => 0
/-- the nearest of the first k -/
def BehI (E : List EN) (H : Int) (k : Nat) (s : ByteArray) (F : Int) : Prop := k = 0 ∨ ∃ j, ∃ (hj : j < E.length), j < k ∧ s = E[j].1 ∧ F = dE E H j ∧ (∀ i, i < k → dE E H j ≤ dE E H i) ∧ ∀ i, i < j → dE E H j < dE E H i
theorem BehI.take {E : List EN} {H : Int} {k : Nat} {s : ByteArray} {F : Int} (h : BehI E H k s F) (hk : k < E.length) (hl : k = 0 ∨ dE E H k < F) : BehI E H (k + 1) E[k].1 (dE E H k) := by
  refine Or.inr ⟨k, hk, by omega, rfl, rfl, ?_⟩
  rcases h with h | ⟨j, hj, hjk, -, hF, hmin, hst⟩
  · subst h
    exact ⟨fun i hi => by rw [show i = 0 by omega]; exact Int.le_refl _, fun i hi => by omega⟩
  · have hlt : dE E H k < F := by
      rcases hl with hl | hl
      · omega
      · exact hl
    rw [hF] at hlt
    refine ⟨fun i hi => ?_, fun i hi => ?_⟩
    · by_cases hik : i = k
      · rw [hik]; exact Int.le_refl _
      · have := hmin i (by omega)
        omega
    · have := hmin i hi
      omega
theorem BehI.keep {E : List EN} {H : Int} {k : Nat} {s : ByteArray} {F : Int} (h : BehI E H k s F) (h0 : k ≠ 0) (hl : ¬ dE E H k < F) : BehI E H (k + 1) s F := by
  rcases h with h | ⟨j, hj, hjk, hs, hF, hmin, hst⟩
  · exact absurd h h0
  · refine Or.inr ⟨j, hj, by omega, hs, hF, fun i hi => ?_, hst⟩
    by_cases hik : i = k
    · rw [hik]
      rw [hF] at hl
      omega
    · exact hmin i (by omega)
def RBehind (w : World) (E : List EN) (H : Int) (e : Ending) (w' : World) : Prop := ∃ (s : ByteArray) (x y : Int), e = .returned (.tuple #[.string s, .agg #[.int .i64 x, .int .i64 y]]) ∧ Bel w w' ∧ W32 x ∧ W32 y ∧ BehI E H E.length s (wv x y)
theorem StE.sub3 {w a : World} {x y z : Value × Int} {u : Value × Int} (h : StE w [x, y, z, u] a) : StE w [x, y, z] a := by
  refine ⟨h.1, fun v hv => h.2.1 v (by simp only [List.mem_cons, List.not_mem_nil, or_false] at hv ⊢; rcases hv with h | h | h <;> simp [h]), ?_⟩
  have := h.2.2
  rw [show [x, y, z, u] = [x, y, z] ++ [u] from rfl, List.map_append] at this
  exact (List.nodup_append.1 this).1

set_option maxRecDepth 100000 in
set_option maxHeartbeats 1600000 in
theorem dbehind_is (p : Nat) (c : Cfg) (gen : Int) (B : List BK) (E : List EN) (h1 h2 : Int) (w : World) (h : StateAt w p c gen B E) (hE : E.length ≤ 140000) (hI : ∀ x ∈ E, W32 x.2.1 ∧ W32 x.2.2) (hh1 : W32 h1) (hh2 : W32 h2) :
    Calls Tryz.prog 94 #[.pointer (some ⟨p, 0, none⟩), .agg #[.int .i64 h1, .int .i64 h2]] w (RBehind w E (wv h1 h2)) := by
  obtain ⟨H, hH⟩ : ∃ H, H = wv h1 h2 := ⟨_, rfl⟩
  rw [← hH]
  have HH := Hid.mk hH
  clear hH
  obtain ⟨vB, vE, _, _, _, c8, _, hpE⟩ := h
  have hpw : p < w.heap.size := World.block_lt_of_cell? w ⟨p, 8, none⟩ c8
  obtain ⟨ao, cap, rfl, hc⟩ := hpE.off
  go_enter Tryz.func94, Tryz.ntmps94
  go_wp2
  have S0 : StE w [(.pointer (some ⟨w.heap.size, 0, none⟩), H), (.pointer (some ⟨w.heap.size + 1, 0, none⟩), 0), (.pointer (some ⟨w.heap.size + 1 + 1, 0, none⟩), 0)] (((w.alloc (.cells #[.int .i64 h1, .int .i64 h2] 129)).alloc (.cells #[.int .i64 0, .int .i64 0] 129)).alloc (.cells #[.int .i64 0, .int .i64 0] 129)) := by
    have q1 := (StE.nil w).more (Bel.step_alloc (Bel.refl _) _) (BoxV.new (Nat.le_refl _) hh1 hh2 HH.out.symm 129) (Nat.le_refl _)
    have q2 := q1.more (Bel.step_alloc (Bel.refl _) _) (BoxV.new (by simp) W32_zero W32_zero (X := 0) rfl 129) (Nat.le_refl _)
    have q3 := q2.more (Bel.step_alloc (Bel.refl _) _) (BoxV.new (by simp; omega) W32_zero W32_zero (X := 0) rfl 129) (Nat.le_refl _)
    simpa using q3
  go_loopg [6, 8] E.length (fun r b i wr => ∃ (s : ByteArray) (k : Nat) (F : Int), k ≤ E.length ∧ r = E.length - k ∧ b = .string s ∧ i = .int .i64 k ∧ StE w [(.pointer (some ⟨w.heap.size, 0, none⟩), H), (.pointer (some ⟨w.heap.size + 1, 0, none⟩), 0), (.pointer (some ⟨w.heap.size + 1 + 1, 0, none⟩), F)] wr ∧ BehI E H k s F)
  case atStart => exact ⟨_, 0, 0, by omega, by omega, rfl, rfl, S0, Or.inl rfl⟩
  case round =>
    obtain ⟨s, k, F, hk, hr, rfl, rfl, hbx, hI0⟩ := hrel
    have HI0 := Hid.mk hI0
    clear hI0 S0
    have d8 := hbx.1.cell c8
    by_cases hlt : k < E.length
    · obtain ⟨g, off, rfl, q0, q1, q2⟩ := hc k hlt
      have r0 := hbx.1.cell q0
      have r1 := hbx.1.cell q1
      have r2 := hbx.1.cell q2
      obtain ⟨hW1, hW2⟩ := hI _ (List.getElem_mem hlt)
      clear hc hI q0 q1 q2
      have HTK : Hid (k = 0 ∨ dE E H k < F → BehI E H (k + 1) E[k].1 (dE E H k)) := fun h => HI0.out.take hlt h
      have HKP : Hid (k ≠ 0 → ¬ dE E H k < F → BehI E H (k + 1) s F) := fun h1 h2 => HI0.out.keep h1 h2
      obtain ⟨DV, hDV⟩ : ∃ X, X = dE E H k := ⟨_, rfl⟩
      have HDV : Hid (DV = subW (wv E[k].2.1 E[k].2.2) H) := by
        show DV = _
        rw [hDV]
        unfold dE
        rw [List.getElem?_eq_getElem hlt]
      rw [← hDV] at HTK HKP
      clear hDV HI0
      generalize E[k] = en at *
      obtain ⟨id, ehi, elo⟩ := en
      simp only at r0 r1 r2 hW1 hW2 HTK HDV
      go_upto_region 6 with fail
      go_cut [9] (fun u9 wc => StE w [(.pointer (some ⟨w.heap.size, 0, none⟩), H), (.pointer (some ⟨w.heap.size + 1, 0, none⟩), 0), (.pointer (some ⟨w.heap.size + 1 + 1, 0, none⟩), F), (u9, DV)] wc ∧ wc.cell? ⟨g, off + k * 3, none⟩ = some (.string id))
      case first =>
        obtain ⟨p3, x3, y3, E3, hp3, c30, c31, f30, f31, hx3, hy3, hv3⟩ := hbx.2.1 (.pointer (some ⟨w.heap.size, 0, none⟩), H) (by simp)
        simp only at hv3
        simp only [Value.pointer.injEq, Option.some.injEq, Addr.mk.injEq, and_true] at E3
        subst E3
        go_region_held3 (fun w' => Bel wr w' ∧ w'.cell? ⟨p, 8, none⟩ = some (.slice (some ⟨g, off, none⟩) E.length cap) ∧ w'.cell? ⟨g, off + k * 3 + 1, none⟩ = some (.int .i64 ehi) ∧ w'.cell? ⟨g, off + k * 3 + 2, none⟩ = some (.int .i64 elo) ∧ w'.cell? ⟨w.heap.size, 0, none⟩ = some (.int .i64 x3) ∧ w'.cell? ⟨w.heap.size, 1, none⟩ = some (.int .i64 y3)) ((refine keep5 ?_ d8 r1 r2 c30 c31; (repeat (first | exact Bel.refl _ | assumption | refine Bel.step_alloc ?_ _ | refine Bel.step_drew ?_ | refine Bel.step_drewN ?_ _ | refine Bel.step_set ?_ (by simp <;> omega) _ | refine Bel.trans ?_ (by assumption))))) ((go_at_call 114; refine (wminus_is _ _ _ _ _ hW1 hW2 hx3 hy3).mono ?_; rintro e w2 ⟨z0, z1, rfl, hb2, k0, k1, ez⟩; obtain ⟨hq2, hf2⟩ := hb2.cells))
        all_goals
          have EZ : Hid (wv z0 z1 = DV) := by
            show wv z0 z1 = DV
            have ez' : wv z0 z1 = subW (wv ehi elo) (wv x3 y3) := ez
            rw [ez', hv3, HDV.out]
          clear ez
          go_wp2_with fail
          go_meet
          case rel =>
            have hB : Bel wr w2 := by (repeat (first | exact Bel.refl _ | assumption | refine Bel.step_alloc ?_ _ | refine Bel.step_drew ?_ | refine Bel.step_drewN ?_ _ | refine Bel.step_set ?_ (by simp <;> omega) _ | refine Bel.trans ?_ (by assumption)))
            have hw := (hbx.1.trans hB).size
            have hw1 := hbx.1.size
            first
              | exact ⟨hbx.more (hB.step_alloc _) (BoxV.new hw k0 k1 EZ.out _) hB.size, (hB.trans (Bel.step_alloc (Bel.refl _) _)).cell r0⟩
              | exact ⟨hbx.more ((hB.step_set (p := ⟨wr.heap.size, 0, none⟩) (Nat.le_refl _) _).step_set (p := ⟨wr.heap.size, 1, none⟩) (Nat.le_refl _) _) (BoxV.stored hw1 ((hq2 _ _ (by simp)).trans (by simp; rfl)) ((hq2 _ _ (by simp)).trans (by simp; rfl)) ((hf2 _ _ (by simp)).trans (by simp)) ((hf2 _ _ (by simp)).trans (by simp)) k0 k1 EZ.out) (Nat.le_refl _), ((hB.step_set (p := ⟨wr.heap.size, 0, none⟩) (Nat.le_refl _) _).step_set (p := ⟨wr.heap.size, 1, none⟩) (Nat.le_refl _) _).cell r0⟩
      case rest =>
        obtain ⟨hbx', hid⟩ := hcut
        obtain ⟨p9, x9, y9, E9, hp9, c90, c91, f90, f91, hx9, hy9, hv9⟩ := hbx'.2.1 (u9, DV) (by simp)
        simp only at E9 hv9
        subst E9
        obtain ⟨p7, x7, y7, E7, hp7, c70, c71, f70, f71, hx7, hy7, hv7⟩ := hbx'.2.1 (.pointer (some ⟨w.heap.size + 1 + 1, 0, none⟩), F) (by simp)
        simp only at hv7
        have HV7 := Hid.mk hv7
        have HV9 := Hid.mk hv9
        clear hv7 hv9
        simp only [Value.pointer.injEq, Option.some.injEq, Addr.mk.injEq, and_true] at E7
        subst E7
        have e8 := hbx'.1.cell c8
        clear r0 r1 r2 d8
        go_wp2_with fail
        refine (wbelow_is _ _ _ _ _ hx9 hy9 hx7 hy7).mono ?_
        rintro e w3 ⟨less, rfl, hb3, hless⟩
        have HLS : Hid (IsB (DV < F) less) := by
          show IsB _ _
          rw [← HV7.out, ← HV9.out]
          exact hless
        clear hless
        have d90 := hb3.cell c90
        have d91 := hb3.cell c91
        have d70 := hb3.cell c70
        have d71 := hb3.cell c71
        have e70 := hb3.frozen c70 f70
        have e71 := hb3.frozen c71 f71
        have g8 := hb3.cell e8
        have hid3 := hb3.cell hid
        have hbx3 := hbx'.later hb3
        by_cases hd : k = 0 ∨ DV < F
        · have HB2 := Hid.mk (HTK.out hd)
          have hkl : ((k : Int) == 0) = true ∨ (((k : Int) == 0) = false ∧ less = true) := by
            by_cases h0 : k = 0
            · exact Or.inl (by rw [h0]; rfl)
            · exact Or.inr ⟨by rw [beq_eq_false_iff_ne]; omega, HLS.out.2 (hd.resolve_left h0)⟩
          clear HTK HKP HLS
          rcases hkl with hk0 | ⟨hk0, rfl⟩
          all_goals
            go_wp2_with fail
            go_roundg (E.length - (k + 1))
            case measure => omega
            case rel => exact ⟨_, k + 1, DV, by omega, rfl, rfl, by go_num, hbx3.sub3.put (Bel.refl _) 2 rfl hx9 hy9 HV9.out, HB2.out⟩
        · have h0 : k ≠ 0 := fun e => hd (Or.inl e)
          have hnl : ¬ DV < F := fun e => hd (Or.inr e)
          have HB2 := Hid.mk (HKP.out (by omega) (by omega))
          have hk0 : ((k : Int) == 0) = false := by rw [beq_eq_false_iff_ne]; omega
          have hle : less = false := by
            cases less
            · rfl
            · exact absurd (HLS.out.1 rfl) hnl
          subst hle
          clear HTK HKP HLS hd hnl
          go_wp2_with fail
          go_roundg (E.length - (k + 1))
          case measure => omega
          case rel => exact ⟨_, k + 1, F, by omega, rfl, rfl, by go_num, hbx3.sub3, HB2.out⟩
    · obtain rfl : k = E.length := by omega
      obtain ⟨p7, x7, y7, E7, hp7, c70, c71, f70, f71, hx7, hy7, hv7⟩ := hbx.2.1 (.pointer (some ⟨w.heap.size + 1 + 1, 0, none⟩), F) (by simp)
      simp only at hv7
      have HBI : Hid (BehI E H E.length s (wv x7 y7)) := by
        show BehI _ _ _ _ _
        rw [hv7]
        exact HI0.out
      clear hv7
      simp only [Value.pointer.injEq, Option.some.injEq, Addr.mk.injEq, and_true] at E7
      subst E7
      obtain ⟨p5, x5, y5, E5, hp5, c50, c51, f50, f51, hx5, hy5, -⟩ := hbx.2.1 (.pointer (some ⟨w.heap.size + 1, 0, none⟩), 0) (by simp)
      simp only [Value.pointer.injEq, Option.some.injEq, Addr.mk.injEq, and_true] at E5
      subst E5
      go_wp2_with fail
      go_region
      all_goals
        go_wp2
        refine bodyPost_ret (v := .tuple #[.string s, .agg #[.int .i64 x7, .int .i64 y7]]) (by simp [results, Tryz.results94, go_sem, c50, c51]) rfl ⟨s, x7, y7, rfl, ?_, hx7, hy7, HBI.out⟩
        exact ((hbx.1.step_drew).step_set (p := ⟨w.heap.size + 1, 0, none⟩) hp5 _).step_set (p := ⟨w.heap.size + 1, 1, none⟩) hp5 _

end Go.Proofs.YtgfildmmcbjpnabGreat
