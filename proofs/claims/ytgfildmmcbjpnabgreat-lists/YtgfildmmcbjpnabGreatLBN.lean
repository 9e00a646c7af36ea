import Derived.Test.YtgfildmmcbjpnabGreatLBK
import Derived.Test.YtgfildmmcbjpnabGreatLBM
namespace Go.Proofs.YtgfildmmcbjpnabGreat
open Go.RowKit

theorem PlG.At.open {M : List Nat} {x : PlG} {w : World} (h : x.At M w) : PlaneAt w x.p x.speaks x.has x.gen x.format x.got x.no ∧ (0 ≤ x.speaks ∧ x.speaks ≤ 3) ∧ I64 x.gen ∧ I64 x.format ∧ StrsAt w x.got x.ng ∧ x.ng ≤ 65535 ∧ (∃ hg, HasAt w x.has hg) ∧ ∀ g, x.got.ownBlock = some g → g ≠ x.p := by
  obtain ⟨h1, h2, h3, h4, h5, h6, ⟨hg, h7⟩, h8⟩ := h
  exact ⟨h1, h2, h3, h4, h5, h6, ⟨hg, h7.unmask⟩, h8⟩
theorem set_alloc (w : World) (a : Addr) (v : Value) (o : Obj) (h : a.block < w.heap.size) : (w.setCell a v).alloc o = (w.alloc o).setCell a v := by
  unfold World.setCell World.alloc
  simp only
  congr 1
  apply Array.ext
  · simp
  · intro i h1 h2
    simp only [Array.getElem_push, Array.getElem_modify, Array.size_modify]
    by_cases hi : i < w.heap.size
    · simp [hi]
    · have : a.block ≠ i := by omega
      simp [hi, this]
def RPutZ (W0 : Base) (s p : Nat) (z : PlG) (e : Ending) (w' : World) : Prop := e = .returned (.tuple #[]) ∧ ∃ x', WInv W0 s x' w' ∧ x'.p = p ∧ z.At x'.M w'
theorem RPr.later {base : Nat} {M : List Nat} {y : PrG} {w w1 w2 : World} (h : RPr base M y w w1) (b : Bel w1 w2) : RPr base M y w w2 := by
  obtain ⟨y', N, h1, h2, h3, h4, h5, h6, h7⟩ := h
  exact ⟨y', N, h1.step b, h2, h3, h4, fun j hj => ⟨(h5 j hj).1, Nat.lt_of_lt_of_le (h5 j hj).2 b.size⟩, h6.but (N := []) (But.of_bel b) (by simp) (by simp), h7⟩

set_option maxRecDepth 100000 in
set_option maxHeartbeats 2000000 in
theorem planes_tick (W0 : Base) (s : Nat) (x : WG) (k : Nat) (hk : k < x.prs.length) (A B C : Int) (S : ByteArray) (w : World) (h : WInv W0 s x w) (_hs : s ≤ 69999) :
    Calls Tryz.prog 33 #[.pointer (some ⟨x.p, 0, none⟩), .pointer (some ⟨(x.prs[k]).a, 0, none⟩), opv 12 A B C S] w (RGo W0 x.p (s + 1)) := by
  have hat := h.pair_at k hk
  have hend : Hid (∀ wx (b : Bool), Bel w wx → RGo W0 x.p (s + 1) (.returned (.bool b)) wx) := fun wx b hb => ⟨b, rfl, x, (h.later hb).up (by omega), rfl⟩
  have hput := fun wx (b : Bel w wx) => wput_y W0 s x k hk ByteArray.empty wx (h.later b) (by omega) (by decide)
  have hpoM : w.heap.size ∉ x.M := fun e => by have := (h.2.2.2.2.1 _ e).2; omega
  generalize x.M = M0 at *
  generalize x.prs[k] = y at *
  generalize x.p = p at *
  have c0 := hat.1.1 0 _ rfl
  have c9 := hat.1.1 9 _ rfl
  have hrow := hat.2.2.2.2.2.2.2.1
  have hps := hat.2.2.2.2.2.2.2.2.2
  have hlen := hat.2.2.2.2.2.2.2.2.1
  have hal := World.block_lt_of_cell? w _ c0
  simp only at hal
  obtain ⟨ao, cap, hv⟩ := own_slice hrow
  clear h hat
  by_cases hin : 0 ≤ B ∧ B < y.ps.length
  · obtain ⟨m, rfl⟩ := Int.eq_ofNat_of_zero_le hin.1
    have hml : m < y.ps.length := by omega
    obtain ⟨g, cap', hv', -, hgl, hc⟩ := own_form0 hrow (by omega)
    rw [hv] at hv'
    simp only [Value.slice.injEq, true_and] at hv'
    obtain ⟨rfl, rfl⟩ := hv'
    have cm : w.cell? ⟨g, m, none⟩ = some (.pointer (some ⟨(y.ps[m]).p, 0, none⟩)) := (hc m hml).trans (by simp [hml])
    have hpl := hps _ (List.getElem_mem hml)
    have hmb : decide ((m : Int) < (y.ps.length : Int)) = true := decide_eq_true (by omega)
    rw [hv] at c9
    have hpz := fun wx (b : Bel w wx) => (hput wx b).mono (fun e w' hr => (show RPutZ W0 (s + 1) p (y.ps[m]) e w' from by
      obtain ⟨h1, ⟨x', h2, h3, h4⟩, -⟩ := hr
      exact ⟨h1, x', h2, h3, h4.2.2.2.2.2.2.2.2.2 _ (List.getElem_mem hml)⟩))
    clear hput
    clear hc hps hrow
    generalize y.ps[m] = z at *
    generalize y.ps.length = n at *
    obtain ⟨hz, hsp, hze, hzf, hzg, hzn, ⟨hg, hzh⟩, hzb⟩ := hpl.open
    clear hz hsp hze hzf hzg hzn hzh hzb
    clear hpl
    unfold opv
    go_enter Tryz.func33, Tryz.ntmps33
    go_wp2_with fail
    obtain ⟨wo, hwo, hbo, o0, o1, o2, o3, o4⟩ := op_box w (.int .i64 12) (.int .i64 A) (.int .i64 (m : Int)) (.int .i64 C) (.string S) 28
    rw [hwo]
    clear hwo
    have k0 := hbo.cell c0
    have k9 := hbo.cell c9
    have km := hbo.cell cm
    have hgo : g < wo.heap.size := World.block_lt_of_cell? wo _ km
    have hao : y.a < wo.heap.size := World.block_lt_of_cell? wo _ k0
    have hpo : w.heap.size < wo.heap.size := World.block_lt_of_cell? wo _ o0
    generalize w.heap.size = po at o0 o1 o2 o3 o4 hpoM hpo ⊢
    go_quiet (fail)
    go_wp2_with fail
    go_quiet (fail)
    go_wp2_with fail
    go_region_held3 (fun w' => Bel wo w' ∧ w'.cell? ⟨y.a, 0, none⟩ = some (.pointer (some ⟨y.q, 0, none⟩)) ∧ w'.cell? ⟨po, 2, none⟩ = some (.int .i64 (m : Int))) ((exact ⟨by (repeat (first | exact Bel.refl _ | assumption | refine Bel.step_alloc ?_ _ | refine Bel.step_drew ?_ | refine Bel.step_drewN ?_ _ | refine Bel.step_set ?_ (by simp <;> omega) _ | refine Bel.trans ?_ (by assumption))), Bel.cell (a := wo) (by (repeat (first | exact Bel.refl _ | assumption | refine Bel.step_alloc ?_ _ | refine Bel.step_drew ?_ | refine Bel.step_drewN ?_ _ | refine Bel.step_set ?_ (by simp <;> omega) _ | refine Bel.trans ?_ (by assumption)))) k0, Bel.cell (a := wo) (by (repeat (first | exact Bel.refl _ | assumption | refine Bel.step_alloc ?_ _ | refine Bel.step_drew ?_ | refine Bel.step_drewN ?_ _ | refine Bel.step_set ?_ (by simp <;> omega) _ | refine Bel.trans ?_ (by assumption)))) o2⟩)) ((go_at_call 63; refine (ltick_is _ _ _).mono ?_; rintro e w1 ⟨rfl, hw1⟩; have hb1 : Bel wo w1 := (by rw [← hw1]; (repeat (first | exact Bel.refl _ | assumption | refine Bel.step_alloc ?_ _ | refine Bel.step_drew ?_ | refine Bel.step_drewN ?_ _ | refine Bel.step_set ?_ (by simp <;> omega) _ | refine Bel.trans ?_ (by assumption)))); clear hw1))
    have hbw1 := hbo.trans hb1
    clear hb1 hbo k0 k9 km o0 o1 o2 o3 o4
    go_wp2_with fail
    refine (hpz _ (by (repeat (first | exact Bel.refl _ | assumption | refine Bel.step_alloc ?_ _ | refine Bel.step_drew ?_ | refine Bel.step_drewN ?_ _ | refine Bel.step_set ?_ (by simp <;> omega) _ | refine Bel.trans ?_ (by assumption))))).mono ?_
    rintro e w2 ⟨rfl, x2, h2, hp2, hz2⟩
    obtain ⟨hz, hsp, hze, hzf, hzg, hzn, ⟨hg, hzh⟩, hzb⟩ := hz2.open
    have has := asks_any z.p z.speaks z.has hg z.gen z.format z.got z.ng z.no w2 hz hzh ⟨by omega, by omega⟩ hze hzf hzg hzn
    have H2 : Hid (∀ wx (b : Bool), Bel w2 wx → RGo W0 p (s + 1) (.returned (.bool b)) wx) := fun wx b hb => ⟨b, rfl, x2, h2.later hb, hp2⟩
    clear hpz h2 hz2 hz hzh hzg
    go_wp2_with fail
    refine has.mono ?_
    rintro e w3 ⟨q, rfl, hb3, -⟩
    clear has
    go_wp2
    all_goals
      go_ret
      exact H2.out _ _ (by (repeat (first | exact Bel.refl _ | assumption | refine Bel.step_alloc ?_ _ | refine Bel.step_drew ?_ | refine Bel.step_drewN ?_ _ | refine Bel.step_set ?_ (by simp <;> omega) _ | refine Bel.trans ?_ (by assumption))))
  · have hnone : ∀ b, decide (0 ≤ B) = b → (b = true → decide (B < (y.ps.length : Int)) = false) := fun b h1 h2 => by
      rw [h2] at h1
      have := of_decide_eq_true h1
      exact decide_eq_false (fun h3 => hin ⟨this, h3⟩)
    rw [hv] at c9
    clear hrow hps
    generalize y.ps.length = n at *
    unfold opv
    go_enter Tryz.func33, Tryz.ntmps33
    go_wp2_with fail
    obtain ⟨wo, hwo, hbo, o0, o1, o2, o3, o4⟩ := op_box w (.int .i64 12) (.int .i64 A) (.int .i64 B) (.int .i64 C) (.string S) 28
    rw [hwo]
    clear hwo
    have k0 := hbo.cell c0
    have k9 := hbo.cell c9
    have hao : y.a < wo.heap.size := World.block_lt_of_cell? wo _ k0
    have hpo : w.heap.size < wo.heap.size := World.block_lt_of_cell? wo _ o0
    generalize w.heap.size = po at o0 o1 o2 o3 o4 hpoM hpo ⊢
    have h01 : decide (0 ≤ B) = false ∨ (decide (0 ≤ B) = true ∧ decide (B < (n : Int)) = false) := by
      cases h0 : decide (0 ≤ B)
      · exact Or.inl rfl
      · exact Or.inr ⟨rfl, hnone _ h0 rfl⟩
    clear hnone hin
    rcases h01 with h0 | ⟨h0, h1⟩
    all_goals
      go_quiet (fail)
      go_wp2_with fail
      go_region_held3 (fun w' => Bel wo w' ∧ w'.cell? ⟨y.a, 0, none⟩ = some (.pointer (some ⟨y.q, 0, none⟩)) ∧ w'.cell? ⟨po, 2, none⟩ = some (.int .i64 B)) ((exact ⟨by (repeat (first | exact Bel.refl _ | assumption | refine Bel.step_alloc ?_ _ | refine Bel.step_drew ?_ | refine Bel.step_drewN ?_ _ | refine Bel.step_set ?_ (by simp <;> omega) _ | refine Bel.trans ?_ (by assumption))), Bel.cell (a := wo) (by (repeat (first | exact Bel.refl _ | assumption | refine Bel.step_alloc ?_ _ | refine Bel.step_drew ?_ | refine Bel.step_drewN ?_ _ | refine Bel.step_set ?_ (by simp <;> omega) _ | refine Bel.trans ?_ (by assumption)))) k0, Bel.cell (a := wo) (by (repeat (first | exact Bel.refl _ | assumption | refine Bel.step_alloc ?_ _ | refine Bel.step_drew ?_ | refine Bel.step_drewN ?_ _ | refine Bel.step_set ?_ (by simp <;> omega) _ | refine Bel.trans ?_ (by assumption)))) o2⟩)) ((go_at_call 63; refine (ltick_is _ _ _).mono ?_; rintro e w1 ⟨rfl, hw1⟩; have hb1 : Bel wo w1 := (by rw [← hw1]; (repeat (first | exact Bel.refl _ | assumption | refine Bel.step_alloc ?_ _ | refine Bel.step_drew ?_ | refine Bel.step_drewN ?_ _ | refine Bel.step_set ?_ (by simp <;> omega) _ | refine Bel.trans ?_ (by assumption)))); clear hw1))
      go_wp2
      all_goals
        go_ret
        exact hend.out _ _ (hbo.trans (by (repeat (first | exact Bel.refl _ | assumption | refine Bel.step_alloc ?_ _ | refine Bel.step_drew ?_ | refine Bel.step_drewN ?_ _ | refine Bel.step_set ?_ (by simp <;> omega) _ | refine Bel.trans ?_ (by assumption)))))

set_option maxRecDepth 100000 in
set_option maxHeartbeats 2000000 in
theorem planes_receive (W0 : Base) (s : Nat) (x : WG) (k : Nat) (hk : k < x.prs.length) (A B C : Int) (S : ByteArray) (w : World) (h : WInv W0 s x w) (_hs : s ≤ 69999) (hC : I64 C) :
    Calls Tryz.prog 33 #[.pointer (some ⟨x.p, 0, none⟩), .pointer (some ⟨(x.prs[k]).a, 0, none⟩), opv 14 A B C S] w (RGo W0 x.p (s + 1)) := by
  have hat := h.pair_at k hk
  have hend : Hid (∀ wx (b : Bool), Bel w wx → RGo W0 x.p (s + 1) (.returned (.bool b)) wx) := fun wx b hb => ⟨b, rfl, x, (h.later hb).up (by omega), rfl⟩
  have hD := h.dpre k hk _hs
  have hwat := fun wx (b : Bel w wx) => wat_is W0 s x C wx (h.later b) (by omega) hC
  have hrp : Hid (∀ wx (b : Bool), RPr W0.heap.size x.M x.prs[k] w wx → RGo W0 x.p (s + 1) (.returned (.bool b)) wx) := fun wx b hr => by
    obtain ⟨x', h', hp⟩ := h.rpr k hk hr
    exact ⟨b, rfl, x', h', hp⟩
  have hpoM : w.heap.size ∉ x.M := fun e => by have := (h.2.2.2.2.1 _ e).2; omega
  generalize x.M = M0 at *
  generalize x.prs[k] = y at *
  generalize x.p = p at *
  have c0 := hat.1.1 0 _ rfl
  have c9 := hat.1.1 9 _ rfl
  have hrow := hat.2.2.2.2.2.2.2.1
  have hps := hat.2.2.2.2.2.2.2.2.2
  have hlen := hat.2.2.2.2.2.2.2.2.1
  have hal := World.block_lt_of_cell? w _ c0
  simp only at hal
  obtain ⟨ao, cap, hv⟩ := own_slice hrow
  clear h hat
  by_cases hin : 0 ≤ B ∧ B < y.ps.length
  · obtain ⟨m, rfl⟩ := Int.eq_ofNat_of_zero_le hin.1
    have hml : m < y.ps.length := by omega
    obtain ⟨g, cap', hv', -, hgl, hc⟩ := own_form0 hrow (by omega)
    rw [hv] at hv'
    simp only [Value.slice.injEq, true_and] at hv'
    obtain ⟨rfl, rfl⟩ := hv'
    have cm : w.cell? ⟨g, m, none⟩ = some (.pointer (some ⟨(y.ps[m]).p, 0, none⟩)) := (hc m hml).trans (by simp [hml])
    have hpl := hps _ (List.getElem_mem hml)
    have hmb : decide ((m : Int) < (y.ps.length : Int)) = true := decide_eq_true (by omega)
    rw [hv] at c9
    have hrc : Hid (∀ wx e w' (b : Bool), Bel w wx → RComes wx (y.ps[m]).p (y.ps[m]).speaks (y.ps[m]).has (y.ps[m]).got e w' → RGo W0 p (s + 1) (.returned (.bool b)) w') := fun wx e w' b hb hr => hrp.out w' b (hD.comes hml hb hr)
    clear hD hrp
    clear hc hps hrow
    generalize y.ps[m] = z at *
    generalize y.ps.length = n at *
    obtain ⟨hz, hsp, hze, hzf, hzg, hzn, ⟨hg, hzh⟩, hzb⟩ := hpl.open
    have hcm := fun wx (f : ByteArray) (b : Bel w wx) (hf : f.size ≤ 1099511627776) => comes_is z.p z.speaks z.has hg z.gen z.format z.got z.ng z.no f wx (hz.later b) (hzh.later b) hze hzf (hzg.later b) hzn hzb hf
    clear hz hsp hze hzf hzg hzn hzh hzb
    clear hpl
    unfold opv
    go_enter Tryz.func33, Tryz.ntmps33
    go_wp2_with fail
    obtain ⟨wo, hwo, hbo, o0, o1, o2, o3, o4⟩ := op_box w (.int .i64 14) (.int .i64 A) (.int .i64 (m : Int)) (.int .i64 C) (.string S) 28
    rw [hwo]
    clear hwo
    have k0 := hbo.cell c0
    have k9 := hbo.cell c9
    have km := hbo.cell cm
    have hgo : g < wo.heap.size := World.block_lt_of_cell? wo _ km
    have hao : y.a < wo.heap.size := World.block_lt_of_cell? wo _ k0
    have hpo : w.heap.size < wo.heap.size := World.block_lt_of_cell? wo _ o0
    generalize w.heap.size = po at o0 o1 o2 o3 o4 hpoM hpo ⊢
    go_quiet (fail)
    go_wp2_with fail
    go_quiet (fail)
    go_wp2_with fail
    refine (hwat _ (hbo.trans (by (repeat (first | exact Bel.refl _ | assumption | refine Bel.step_alloc ?_ _ | refine Bel.step_drew ?_ | refine Bel.step_drewN ?_ _ | refine Bel.step_set ?_ (by simp <;> omega) _ | refine Bel.trans ?_ (by assumption)))))).mono ?_
    rintro e w3 ⟨f, rfl, hb3, hsf⟩
    have hbo3 : Bel wo w3 := by (repeat (first | exact Bel.refl _ | assumption | refine Bel.step_alloc ?_ _ | refine Bel.step_drew ?_ | refine Bel.step_drewN ?_ _ | refine Bel.step_set ?_ (by simp <;> omega) _ | refine Bel.trans ?_ (by assumption)))
    have j0 := hbo3.cell k0
    have j2 := hbo3.cell o2
    have hbw3 := hbo.trans hbo3
    clear hwat hb3 hbo hbo3 k0 k9 km o0 o1 o2 o3 o4
    go_wp2_with fail
    go_region_held3 (fun w' => Bel w3 w' ∧ w'.cell? ⟨y.a, 0, none⟩ = some (.pointer (some ⟨y.q, 0, none⟩)) ∧ w'.cell? ⟨po, 2, none⟩ = some (.int .i64 (m : Int))) ((exact ⟨by (repeat (first | exact Bel.refl _ | assumption | refine Bel.step_alloc ?_ _ | refine Bel.step_drew ?_ | refine Bel.step_drewN ?_ _ | refine Bel.step_set ?_ (by simp <;> omega) _ | refine Bel.trans ?_ (by assumption))), Bel.cell (a := w3) (by (repeat (first | exact Bel.refl _ | assumption | refine Bel.step_alloc ?_ _ | refine Bel.step_drew ?_ | refine Bel.step_drewN ?_ _ | refine Bel.step_set ?_ (by simp <;> omega) _ | refine Bel.trans ?_ (by assumption)))) j0, Bel.cell (a := w3) (by (repeat (first | exact Bel.refl _ | assumption | refine Bel.step_alloc ?_ _ | refine Bel.step_drew ?_ | refine Bel.step_drewN ?_ _ | refine Bel.step_set ?_ (by simp <;> omega) _ | refine Bel.trans ?_ (by assumption)))) j2⟩)) ((go_at_call 65; refine (lreceive_is _ _ _ _).mono ?_; rintro e w1 ⟨rfl, hw1⟩; have hb1 : Bel w3 w1 := (by rw [← hw1]; (repeat (first | exact Bel.refl _ | assumption | refine Bel.step_alloc ?_ _ | refine Bel.step_drew ?_ | refine Bel.step_drewN ?_ _ | refine Bel.step_set ?_ (by simp <;> omega) _ | refine Bel.trans ?_ (by assumption)))); clear hw1))
    have hbw1 := hbw3.trans hb1
    have hcm1 := fun wx (b : Bel w1 wx) => hcm wx f (hbw1.trans b) hsf
    have hrc1 : Hid (∀ wx e w' (b : Bool), Bel w1 wx → RComes wx z.p z.speaks z.has z.got e w' → RGo W0 p (s + 1) (.returned (.bool b)) w') := fun wx e w' b hb hr => hrc.out wx e w' b (hbw1.trans hb) hr
    clear hcm hrc hb1 hbw3 j0 j2
    go_wp2_with fail
    refine (hcm1 _ (by (repeat (first | exact Bel.refl _ | assumption | refine Bel.step_alloc ?_ _ | refine Bel.step_drew ?_ | refine Bel.step_drewN ?_ _ | refine Bel.step_set ?_ (by simp <;> omega) _ | refine Bel.trans ?_ (by assumption))))).mono ?_
    intro e w4 hr
    have HR := Hid.mk (fun b => hrc1.out _ e w4 b (by (repeat (first | exact Bel.refl _ | assumption | refine Bel.step_alloc ?_ _ | refine Bel.step_drew ?_ | refine Bel.step_drewN ?_ _ | refine Bel.step_set ?_ (by simp <;> omega) _ | refine Bel.trans ?_ (by assumption)))) hr)
    obtain ⟨rfl, -⟩ := hr
    clear hcm1 hrc1
    go_wp2
    all_goals
      go_ret
      exact HR.out _
  · have hnone : ∀ b, decide (0 ≤ B) = b → (b = true → decide (B < (y.ps.length : Int)) = false) := fun b h1 h2 => by
      rw [h2] at h1
      have := of_decide_eq_true h1
      exact decide_eq_false (fun h3 => hin ⟨this, h3⟩)
    rw [hv] at c9
    clear hrow hps
    generalize y.ps.length = n at *
    unfold opv
    go_enter Tryz.func33, Tryz.ntmps33
    go_wp2_with fail
    obtain ⟨wo, hwo, hbo, o0, o1, o2, o3, o4⟩ := op_box w (.int .i64 14) (.int .i64 A) (.int .i64 B) (.int .i64 C) (.string S) 28
    rw [hwo]
    clear hwo
    have k0 := hbo.cell c0
    have k9 := hbo.cell c9
    have hao : y.a < wo.heap.size := World.block_lt_of_cell? wo _ k0
    have hpo : w.heap.size < wo.heap.size := World.block_lt_of_cell? wo _ o0
    generalize w.heap.size = po at o0 o1 o2 o3 o4 hpoM hpo ⊢
    have h01 : decide (0 ≤ B) = false ∨ (decide (0 ≤ B) = true ∧ decide (B < (n : Int)) = false) := by
      cases h0 : decide (0 ≤ B)
      · exact Or.inl rfl
      · exact Or.inr ⟨rfl, hnone _ h0 rfl⟩
    clear hnone hin
    rcases h01 with h0 | ⟨h0, h1⟩
    all_goals
      go_quiet (fail)
      go_wp2_with fail
      refine (hwat _ (hbo.trans (by (repeat (first | exact Bel.refl _ | assumption | refine Bel.step_alloc ?_ _ | refine Bel.step_drew ?_ | refine Bel.step_drewN ?_ _ | refine Bel.step_set ?_ (by simp <;> omega) _ | refine Bel.trans ?_ (by assumption)))))).mono ?_
      rintro e w3 ⟨f, rfl, hb3, hsf⟩
      have hbo3 : Bel wo w3 := by (repeat (first | exact Bel.refl _ | assumption | refine Bel.step_alloc ?_ _ | refine Bel.step_drew ?_ | refine Bel.step_drewN ?_ _ | refine Bel.step_set ?_ (by simp <;> omega) _ | refine Bel.trans ?_ (by assumption)))
      have j0 := hbo3.cell k0
      have j2 := hbo3.cell o2
      have hbw3 := hbo.trans hbo3
      clear hwat hb3
      go_wp2_with fail
      go_region_held3 (fun w' => Bel w3 w' ∧ w'.cell? ⟨y.a, 0, none⟩ = some (.pointer (some ⟨y.q, 0, none⟩)) ∧ w'.cell? ⟨po, 2, none⟩ = some (.int .i64 B)) ((exact ⟨by (repeat (first | exact Bel.refl _ | assumption | refine Bel.step_alloc ?_ _ | refine Bel.step_drew ?_ | refine Bel.step_drewN ?_ _ | refine Bel.step_set ?_ (by simp <;> omega) _ | refine Bel.trans ?_ (by assumption))), Bel.cell (a := w3) (by (repeat (first | exact Bel.refl _ | assumption | refine Bel.step_alloc ?_ _ | refine Bel.step_drew ?_ | refine Bel.step_drewN ?_ _ | refine Bel.step_set ?_ (by simp <;> omega) _ | refine Bel.trans ?_ (by assumption)))) j0, Bel.cell (a := w3) (by (repeat (first | exact Bel.refl _ | assumption | refine Bel.step_alloc ?_ _ | refine Bel.step_drew ?_ | refine Bel.step_drewN ?_ _ | refine Bel.step_set ?_ (by simp <;> omega) _ | refine Bel.trans ?_ (by assumption)))) j2⟩)) ((go_at_call 65; refine (lreceive_is _ _ _ _).mono ?_; rintro e w1 ⟨rfl, hw1⟩; have hb1 : Bel w3 w1 := (by rw [← hw1]; (repeat (first | exact Bel.refl _ | assumption | refine Bel.step_alloc ?_ _ | refine Bel.step_drew ?_ | refine Bel.step_drewN ?_ _ | refine Bel.step_set ?_ (by simp <;> omega) _ | refine Bel.trans ?_ (by assumption)))); clear hw1))
      go_wp2
      all_goals
        go_ret
        exact hend.out _ _ (hbw3.trans (by (repeat (first | exact Bel.refl _ | assumption | refine Bel.step_alloc ?_ _ | refine Bel.step_drew ?_ | refine Bel.step_drewN ?_ _ | refine Bel.step_set ?_ (by simp <;> omega) _ | refine Bel.trans ?_ (by assumption)))))

set_option maxRecDepth 100000 in
set_option maxHeartbeats 2000000 in
theorem planes_restart (W0 : Base) (s : Nat) (x : WG) (k : Nat) (hk : k < x.prs.length) (A B C : Int) (S : ByteArray) (w : World) (h : WInv W0 s x w) (_hs : s ≤ 69999) :
    Calls Tryz.prog 33 #[.pointer (some ⟨x.p, 0, none⟩), .pointer (some ⟨(x.prs[k]).a, 0, none⟩), opv 15 A B C S] w (RGo W0 x.p (s + 1)) := by
  have hat := h.pair_at k hk
  have hend : Hid (∀ wx (b : Bool), Bel w wx → RGo W0 x.p (s + 1) (.returned (.bool b)) wx) := fun wx b hb => ⟨b, rfl, x, (h.later hb).up (by omega), rfl⟩
  have hD := h.dpre k hk _hs
  have hrp : Hid (∀ wx (b : Bool), RPr W0.heap.size x.M x.prs[k] w wx → RGo W0 x.p (s + 1) (.returned (.bool b)) wx) := fun wx b hr => by
    obtain ⟨x', h', hp⟩ := h.rpr k hk hr
    exact ⟨b, rfl, x', h', hp⟩
  have hpoM : w.heap.size ∉ x.M := fun e => by have := (h.2.2.2.2.1 _ e).2; omega
  generalize x.M = M0 at *
  generalize x.prs[k] = y at *
  generalize x.p = p at *
  have c0 := hat.1.1 0 _ rfl
  have c9 := hat.1.1 9 _ rfl
  have hrow := hat.2.2.2.2.2.2.2.1
  have hps := hat.2.2.2.2.2.2.2.2.2
  have hlen := hat.2.2.2.2.2.2.2.2.1
  have hal := World.block_lt_of_cell? w _ c0
  simp only at hal
  obtain ⟨ao, cap, hv⟩ := own_slice hrow
  clear h hat
  by_cases hin : 0 ≤ B ∧ B < y.ps.length
  · obtain ⟨m, rfl⟩ := Int.eq_ofNat_of_zero_le hin.1
    have hml : m < y.ps.length := by omega
    obtain ⟨g, cap', hv', -, hgl, hc⟩ := own_form0 hrow (by omega)
    rw [hv] at hv'
    simp only [Value.slice.injEq, true_and] at hv'
    obtain ⟨rfl, rfl⟩ := hv'
    have cm : w.cell? ⟨g, m, none⟩ = some (.pointer (some ⟨(y.ps[m]).p, 0, none⟩)) := (hc m hml).trans (by simp [hml])
    have hpl := hps _ (List.getElem_mem hml)
    have hmb : decide ((m : Int) < (y.ps.length : Int)) = true := decide_eq_true (by omega)
    rw [hv] at c9
    have fm := World.ownsRow.frozenAt (hv ▸ hrow) m
    have hrs : Hid (∀ w1 pz f, Bel w w1 → w.heap.size ≤ pz → pz < w1.heap.size → PlaneAt w1 pz f (.pointer none) 0 0 (.slice none 0 0) false → 0 ≤ f ∧ f ≤ 3 → RPr W0.heap.size M0 y w (w1.setCell ⟨g, m, none⟩ (.pointer (some ⟨pz, 0, none⟩)))) := fun w1 pz f b h1 h2 h3 h4 => hD.restart b h1 h2 h3 h4 hml hv
    clear hD
    clear hc hps hrow
    generalize y.ps[m] = z at *
    generalize y.ps.length = n at *
    obtain ⟨hz, hsp, hze, hzf, hzg, hzn, ⟨hg, hzh⟩, hzb⟩ := hpl.open
    clear hze hzf hzg hzn hzh hzb
    clear hpl
    unfold opv
    go_enter Tryz.func33, Tryz.ntmps33
    go_wp2_with fail
    obtain ⟨wo, hwo, hbo, o0, o1, o2, o3, o4⟩ := op_box w (.int .i64 15) (.int .i64 A) (.int .i64 (m : Int)) (.int .i64 C) (.string S) 28
    rw [hwo]
    clear hwo
    have k0 := hbo.cell c0
    have k9 := hbo.cell c9
    have km := hbo.cell cm
    have hgo : g < wo.heap.size := World.block_lt_of_cell? wo _ km
    have hao : y.a < wo.heap.size := World.block_lt_of_cell? wo _ k0
    have hpo : w.heap.size < wo.heap.size := World.block_lt_of_cell? wo _ o0
    generalize w.heap.size = po at o0 o1 o2 o3 o4 hpoM hpo ⊢
    go_quiet (fail)
    go_wp2_with fail
    go_quiet (fail)
    go_wp2_with fail
    go_region_held3 (fun w' => Bel wo w' ∧ w'.cell? ⟨y.a, 0, none⟩ = some (.pointer (some ⟨y.q, 0, none⟩)) ∧ w'.cell? ⟨po, 2, none⟩ = some (.int .i64 (m : Int))) ((exact ⟨by (repeat (first | exact Bel.refl _ | assumption | refine Bel.step_alloc ?_ _ | refine Bel.step_drew ?_ | refine Bel.step_drewN ?_ _ | refine Bel.step_set ?_ (by simp <;> omega) _ | refine Bel.trans ?_ (by assumption))), Bel.cell (a := wo) (by (repeat (first | exact Bel.refl _ | assumption | refine Bel.step_alloc ?_ _ | refine Bel.step_drew ?_ | refine Bel.step_drewN ?_ _ | refine Bel.step_set ?_ (by simp <;> omega) _ | refine Bel.trans ?_ (by assumption)))) k0, Bel.cell (a := wo) (by (repeat (first | exact Bel.refl _ | assumption | refine Bel.step_alloc ?_ _ | refine Bel.step_drew ?_ | refine Bel.step_drewN ?_ _ | refine Bel.step_set ?_ (by simp <;> omega) _ | refine Bel.trans ?_ (by assumption)))) o2⟩)) ((go_at_call 67; refine (lrestart_is _ _ _).mono ?_; rintro e w1 ⟨rfl, hw1⟩; have hb1 : Bel wo w1 := (by rw [← hw1]; (repeat (first | exact Bel.refl _ | assumption | refine Bel.step_alloc ?_ _ | refine Bel.step_drew ?_ | refine Bel.step_drewN ?_ _ | refine Bel.step_set ?_ (by simp <;> omega) _ | refine Bel.trans ?_ (by assumption)))); clear hw1))
    have hbw1 := hbo.trans hb1
    have j9 := hb1.cell k9
    have jm := hb1.cell km
    have j2 := hb1.cell o2
    have z0 := hbw1.cell hz.1.1
    have jf := hb1.frozen km (hbo.frozen cm fm)
    have hpa1 : po < w1.heap.size := World.block_lt_of_cell? w1 _ j2
    have hya1 : y.a < w1.heap.size := World.block_lt_of_cell? w1 _ j9
    have hga1 : g < w1.heap.size := World.block_lt_of_cell? w1 _ jm
    have hza1 : z.p < w1.heap.size := World.block_lt_of_cell? w1 _ z0
    clear hb1 hbo k0 k9 km o0 o1 o2 o3 o4 c0 c9 cm fm
    have HW : Hid (RPr W0.heap.size M0 y w ((w1.setCell ⟨g, m, none⟩ (.pointer (some ⟨w1.heap.size, 0, none⟩))).alloc (.cells #[.int .i64 z.speaks, .pointer none, .int .i64 0, .int .i64 0, .slice none 0 0, .bool false] 102))) := by
      show RPr _ _ _ _ _
      rw [set_alloc _ _ _ _ hga1]
      exact hrs.out _ w1.heap.size z.speaks (hbw1.step_alloc _) hbw1.size (by simp) ⟨⟨by simp, by simp, by simp, by simp, by simp, by simp⟩, fun j => by simp⟩ hsp
    clear hrs
    go_wp2_with fail
    go_region
    all_goals
      have HF := Hid.mk (fun b => hrp.out _ b (HW.out.later (Bel.step_drew (Bel.refl _))))
      clear HW hrp
      go_wp2
      all_goals
        go_ret
        first | exact HF.out _ | exact hrp.out _ _ (HW.out.later (by (repeat (first | exact Bel.refl _ | assumption | refine Bel.step_alloc ?_ _ | refine Bel.step_drew ?_ | refine Bel.step_drewN ?_ _ | refine Bel.step_set ?_ (by simp <;> omega) _ | refine Bel.trans ?_ (by assumption)))))
  · have hnone : ∀ b, decide (0 ≤ B) = b → (b = true → decide (B < (y.ps.length : Int)) = false) := fun b h1 h2 => by
      rw [h2] at h1
      have := of_decide_eq_true h1
      exact decide_eq_false (fun h3 => hin ⟨this, h3⟩)
    rw [hv] at c9
    clear hrow hps
    generalize y.ps.length = n at *
    unfold opv
    go_enter Tryz.func33, Tryz.ntmps33
    go_wp2_with fail
    obtain ⟨wo, hwo, hbo, o0, o1, o2, o3, o4⟩ := op_box w (.int .i64 15) (.int .i64 A) (.int .i64 B) (.int .i64 C) (.string S) 28
    rw [hwo]
    clear hwo
    have k0 := hbo.cell c0
    have k9 := hbo.cell c9
    have hao : y.a < wo.heap.size := World.block_lt_of_cell? wo _ k0
    have hpo : w.heap.size < wo.heap.size := World.block_lt_of_cell? wo _ o0
    generalize w.heap.size = po at o0 o1 o2 o3 o4 hpoM hpo ⊢
    have h01 : decide (0 ≤ B) = false ∨ (decide (0 ≤ B) = true ∧ decide (B < (n : Int)) = false) := by
      cases h0 : decide (0 ≤ B)
      · exact Or.inl rfl
      · exact Or.inr ⟨rfl, hnone _ h0 rfl⟩
    clear hnone hin
    rcases h01 with h0 | ⟨h0, h1⟩
    all_goals
      go_quiet (fail)
      go_wp2_with fail
      go_region_held3 (fun w' => Bel wo w' ∧ w'.cell? ⟨y.a, 0, none⟩ = some (.pointer (some ⟨y.q, 0, none⟩)) ∧ w'.cell? ⟨po, 2, none⟩ = some (.int .i64 B)) ((exact ⟨by (repeat (first | exact Bel.refl _ | assumption | refine Bel.step_alloc ?_ _ | refine Bel.step_drew ?_ | refine Bel.step_drewN ?_ _ | refine Bel.step_set ?_ (by simp <;> omega) _ | refine Bel.trans ?_ (by assumption))), Bel.cell (a := wo) (by (repeat (first | exact Bel.refl _ | assumption | refine Bel.step_alloc ?_ _ | refine Bel.step_drew ?_ | refine Bel.step_drewN ?_ _ | refine Bel.step_set ?_ (by simp <;> omega) _ | refine Bel.trans ?_ (by assumption)))) k0, Bel.cell (a := wo) (by (repeat (first | exact Bel.refl _ | assumption | refine Bel.step_alloc ?_ _ | refine Bel.step_drew ?_ | refine Bel.step_drewN ?_ _ | refine Bel.step_set ?_ (by simp <;> omega) _ | refine Bel.trans ?_ (by assumption)))) o2⟩)) ((go_at_call 67; refine (lrestart_is _ _ _).mono ?_; rintro e w1 ⟨rfl, hw1⟩; have hb1 : Bel wo w1 := (by rw [← hw1]; (repeat (first | exact Bel.refl _ | assumption | refine Bel.step_alloc ?_ _ | refine Bel.step_drew ?_ | refine Bel.step_drewN ?_ _ | refine Bel.step_set ?_ (by simp <;> omega) _ | refine Bel.trans ?_ (by assumption)))); clear hw1))
      go_wp2
      all_goals
        go_ret
        exact hend.out _ _ (hbo.trans (by (repeat (first | exact Bel.refl _ | assumption | refine Bel.step_alloc ?_ _ | refine Bel.step_drew ?_ | refine Bel.step_drewN ?_ _ | refine Bel.step_set ?_ (by simp <;> omega) _ | refine Bel.trans ?_ (by assumption)))))

set_option maxRecDepth 100000 in
set_option maxHeartbeats 2000000 in
theorem planes_held (W0 : Base) (s : Nat) (x : WG) (k : Nat) (hk : k < x.prs.length) (A B C : Int) (S : ByteArray) (w : World) (h : WInv W0 s x w) (_hs : s ≤ 69999) :
    Calls Tryz.prog 33 #[.pointer (some ⟨x.p, 0, none⟩), .pointer (some ⟨(x.prs[k]).a, 0, none⟩), opv 16 A B C S] w (RGo W0 x.p (s + 1)) := by
  have hat := h.pair_at k hk
  have hend : Hid (∀ wx (b : Bool), Bel w wx → RGo W0 x.p (s + 1) (.returned (.bool b)) wx) := fun wx b hb => ⟨b, rfl, x, (h.later hb).up (by omega), rfl⟩
  have hpoM : w.heap.size ∉ x.M := fun e => by have := (h.2.2.2.2.1 _ e).2; omega
  generalize x.M = M0 at *
  generalize x.prs[k] = y at *
  generalize x.p = p at *
  have c0 := hat.1.1 0 _ rfl
  have c9 := hat.1.1 9 _ rfl
  have hrow := hat.2.2.2.2.2.2.2.1
  have hps := hat.2.2.2.2.2.2.2.2.2
  have hlen := hat.2.2.2.2.2.2.2.2.1
  have hal := World.block_lt_of_cell? w _ c0
  simp only at hal
  obtain ⟨ao, cap, hv⟩ := own_slice hrow
  clear h hat
  by_cases hin : 0 ≤ B ∧ B < y.ps.length
  · obtain ⟨m, rfl⟩ := Int.eq_ofNat_of_zero_le hin.1
    have hml : m < y.ps.length := by omega
    obtain ⟨g, cap', hv', -, hgl, hc⟩ := own_form0 hrow (by omega)
    rw [hv] at hv'
    simp only [Value.slice.injEq, true_and] at hv'
    obtain ⟨rfl, rfl⟩ := hv'
    have cm : w.cell? ⟨g, m, none⟩ = some (.pointer (some ⟨(y.ps[m]).p, 0, none⟩)) := (hc m hml).trans (by simp [hml])
    have hpl := hps _ (List.getElem_mem hml)
    have hmb : decide ((m : Int) < (y.ps.length : Int)) = true := decide_eq_true (by omega)
    rw [hv] at c9
    clear hc hps hrow
    generalize y.ps[m] = z at *
    generalize y.ps.length = n at *
    obtain ⟨hz, hsp, hze, hzf, hzg, hzn, ⟨hg, hzh⟩, hzb⟩ := hpl.open
    have hgen := fun wx (b : Bel w wx) => pgen_any z.p z.speaks z.has hg z.gen z.format z.got z.no wx (hz.later b) (hzh.later b)
    have z5c := hz.1.2.2.2.2.2
    clear hzh
    clear hpl
    unfold opv
    go_enter Tryz.func33, Tryz.ntmps33
    go_wp2_with fail
    obtain ⟨wo, hwo, hbo, o0, o1, o2, o3, o4⟩ := op_box w (.int .i64 16) (.int .i64 A) (.int .i64 (m : Int)) (.int .i64 C) (.string S) 28
    rw [hwo]
    clear hwo
    have k0 := hbo.cell c0
    have k9 := hbo.cell c9
    have km := hbo.cell cm
    have hgo : g < wo.heap.size := World.block_lt_of_cell? wo _ km
    have hao : y.a < wo.heap.size := World.block_lt_of_cell? wo _ k0
    have hpo : w.heap.size < wo.heap.size := World.block_lt_of_cell? wo _ o0
    generalize w.heap.size = po at o0 o1 o2 o3 o4 hpoM hpo ⊢
    go_quiet (fail)
    go_wp2_with fail
    go_quiet (fail)
    go_wp2_with fail
    go_region_held3 (fun w' => Bel wo w' ∧ w'.cell? ⟨y.a, 0, none⟩ = some (.pointer (some ⟨y.q, 0, none⟩)) ∧ w'.cell? ⟨po, 2, none⟩ = some (.int .i64 (m : Int))) ((exact ⟨by (repeat (first | exact Bel.refl _ | assumption | refine Bel.step_alloc ?_ _ | refine Bel.step_drew ?_ | refine Bel.step_drewN ?_ _ | refine Bel.step_set ?_ (by simp <;> omega) _ | refine Bel.trans ?_ (by assumption))), Bel.cell (a := wo) (by (repeat (first | exact Bel.refl _ | assumption | refine Bel.step_alloc ?_ _ | refine Bel.step_drew ?_ | refine Bel.step_drewN ?_ _ | refine Bel.step_set ?_ (by simp <;> omega) _ | refine Bel.trans ?_ (by assumption)))) k0, Bel.cell (a := wo) (by (repeat (first | exact Bel.refl _ | assumption | refine Bel.step_alloc ?_ _ | refine Bel.step_drew ?_ | refine Bel.step_drewN ?_ _ | refine Bel.step_set ?_ (by simp <;> omega) _ | refine Bel.trans ?_ (by assumption)))) o2⟩)) ((go_at_call 68; refine (lheld_is _ _ _).mono ?_; rintro e w1 ⟨rfl, hw1⟩; have hb1 : Bel wo w1 := (by rw [← hw1]; (repeat (first | exact Bel.refl _ | assumption | refine Bel.step_alloc ?_ _ | refine Bel.step_drew ?_ | refine Bel.step_drewN ?_ _ | refine Bel.step_set ?_ (by simp <;> omega) _ | refine Bel.trans ?_ (by assumption)))); clear hw1))
    have hbw1 := hbo.trans hb1
    have z5 := hbw1.cell z5c
    clear hb1 hbo k0 k9 km o0 o1 o2 o3 o4
    go_wp2_with fail
    refine (hgen _ (by (repeat (first | exact Bel.refl _ | assumption | refine Bel.step_alloc ?_ _ | refine Bel.step_drew ?_ | refine Bel.step_drewN ?_ _ | refine Bel.step_set ?_ (by simp <;> omega) _ | refine Bel.trans ?_ (by assumption))))).mono ?_
    rintro e w2 ⟨rfl, rfl⟩
    clear hgen
    cases hno : z.no
    all_goals
      rw [hno] at z5
      go_wp2
      all_goals
        go_ret
        exact hend.out _ _ (by (repeat (first | exact Bel.refl _ | assumption | refine Bel.step_alloc ?_ _ | refine Bel.step_drew ?_ | refine Bel.step_drewN ?_ _ | refine Bel.step_set ?_ (by simp <;> omega) _ | refine Bel.trans ?_ (by assumption))))
  · have hnone : ∀ b, decide (0 ≤ B) = b → (b = true → decide (B < (y.ps.length : Int)) = false) := fun b h1 h2 => by
      rw [h2] at h1
      have := of_decide_eq_true h1
      exact decide_eq_false (fun h3 => hin ⟨this, h3⟩)
    rw [hv] at c9
    clear hrow hps
    generalize y.ps.length = n at *
    unfold opv
    go_enter Tryz.func33, Tryz.ntmps33
    go_wp2_with fail
    obtain ⟨wo, hwo, hbo, o0, o1, o2, o3, o4⟩ := op_box w (.int .i64 16) (.int .i64 A) (.int .i64 B) (.int .i64 C) (.string S) 28
    rw [hwo]
    clear hwo
    have k0 := hbo.cell c0
    have k9 := hbo.cell c9
    have hao : y.a < wo.heap.size := World.block_lt_of_cell? wo _ k0
    have hpo : w.heap.size < wo.heap.size := World.block_lt_of_cell? wo _ o0
    generalize w.heap.size = po at o0 o1 o2 o3 o4 hpoM hpo ⊢
    have h01 : decide (0 ≤ B) = false ∨ (decide (0 ≤ B) = true ∧ decide (B < (n : Int)) = false) := by
      cases h0 : decide (0 ≤ B)
      · exact Or.inl rfl
      · exact Or.inr ⟨rfl, hnone _ h0 rfl⟩
    clear hnone hin
    rcases h01 with h0 | ⟨h0, h1⟩
    all_goals
      go_quiet (fail)
      go_wp2_with fail
      go_region_held3 (fun w' => Bel wo w' ∧ w'.cell? ⟨y.a, 0, none⟩ = some (.pointer (some ⟨y.q, 0, none⟩)) ∧ w'.cell? ⟨po, 2, none⟩ = some (.int .i64 B)) ((exact ⟨by (repeat (first | exact Bel.refl _ | assumption | refine Bel.step_alloc ?_ _ | refine Bel.step_drew ?_ | refine Bel.step_drewN ?_ _ | refine Bel.step_set ?_ (by simp <;> omega) _ | refine Bel.trans ?_ (by assumption))), Bel.cell (a := wo) (by (repeat (first | exact Bel.refl _ | assumption | refine Bel.step_alloc ?_ _ | refine Bel.step_drew ?_ | refine Bel.step_drewN ?_ _ | refine Bel.step_set ?_ (by simp <;> omega) _ | refine Bel.trans ?_ (by assumption)))) k0, Bel.cell (a := wo) (by (repeat (first | exact Bel.refl _ | assumption | refine Bel.step_alloc ?_ _ | refine Bel.step_drew ?_ | refine Bel.step_drewN ?_ _ | refine Bel.step_set ?_ (by simp <;> omega) _ | refine Bel.trans ?_ (by assumption)))) o2⟩)) ((go_at_call 68; refine (lheld_is _ _ _).mono ?_; rintro e w1 ⟨rfl, hw1⟩; have hb1 : Bel wo w1 := (by rw [← hw1]; (repeat (first | exact Bel.refl _ | assumption | refine Bel.step_alloc ?_ _ | refine Bel.step_drew ?_ | refine Bel.step_drewN ?_ _ | refine Bel.step_set ?_ (by simp <;> omega) _ | refine Bel.trans ?_ (by assumption)))); clear hw1))
      go_wp2
      all_goals
        go_ret
        exact hend.out _ _ (hbo.trans (by (repeat (first | exact Bel.refl _ | assumption | refine Bel.step_alloc ?_ _ | refine Bel.step_drew ?_ | refine Bel.step_drewN ?_ _ | refine Bel.step_set ?_ (by simp <;> omega) _ | refine Bel.trans ?_ (by assumption)))))

set_option maxRecDepth 100000 in
set_option maxHeartbeats 2000000 in
theorem planes_lookup (W0 : Base) (s : Nat) (x : WG) (k : Nat) (hk : k < x.prs.length) (A B C : Int) (S : ByteArray) (w : World) (h : WInv W0 s x w) (_hs : s ≤ 69999) (hS : S.size ≤ 65536) :
    Calls Tryz.prog 33 #[.pointer (some ⟨x.p, 0, none⟩), .pointer (some ⟨(x.prs[k]).a, 0, none⟩), opv 17 A B C S] w (RGo W0 x.p (s + 1)) := by
  have hat := h.pair_at k hk
  have hend : Hid (∀ wx (b : Bool), Bel w wx → RGo W0 x.p (s + 1) (.returned (.bool b)) wx) := fun wx b hb => ⟨b, rfl, x, (h.later hb).up (by omega), rfl⟩
  have hpoM : w.heap.size ∉ x.M := fun e => by have := (h.2.2.2.2.1 _ e).2; omega
  generalize x.M = M0 at *
  generalize x.prs[k] = y at *
  generalize x.p = p at *
  have c0 := hat.1.1 0 _ rfl
  have c9 := hat.1.1 9 _ rfl
  have hrow := hat.2.2.2.2.2.2.2.1
  have hps := hat.2.2.2.2.2.2.2.2.2
  have hlen := hat.2.2.2.2.2.2.2.2.1
  have hal := World.block_lt_of_cell? w _ c0
  simp only at hal
  obtain ⟨ao, cap, hv⟩ := own_slice hrow
  clear h hat
  by_cases hin : 0 ≤ B ∧ B < y.ps.length
  · obtain ⟨m, rfl⟩ := Int.eq_ofNat_of_zero_le hin.1
    have hml : m < y.ps.length := by omega
    obtain ⟨g, cap', hv', -, hgl, hc⟩ := own_form0 hrow (by omega)
    rw [hv] at hv'
    simp only [Value.slice.injEq, true_and] at hv'
    obtain ⟨rfl, rfl⟩ := hv'
    have cm : w.cell? ⟨g, m, none⟩ = some (.pointer (some ⟨(y.ps[m]).p, 0, none⟩)) := (hc m hml).trans (by simp [hml])
    have hpl := hps _ (List.getElem_mem hml)
    have hmb : decide ((m : Int) < (y.ps.length : Int)) = true := decide_eq_true (by omega)
    rw [hv] at c9
    clear hc hps hrow
    generalize y.ps[m] = z at *
    generalize y.ps.length = n at *
    obtain ⟨hz, hsp, hze, hzf, hzg, hzn, ⟨hg, hzh⟩, hzb⟩ := hpl.open
    clear hpl
    unfold opv
    go_enter Tryz.func33, Tryz.ntmps33
    go_wp2_with fail
    obtain ⟨wo, hwo, hbo, o0, o1, o2, o3, o4⟩ := op_box w (.int .i64 17) (.int .i64 A) (.int .i64 (m : Int)) (.int .i64 C) (.string S) 28
    rw [hwo]
    clear hwo
    have k0 := hbo.cell c0
    have k9 := hbo.cell c9
    have km := hbo.cell cm
    have hgo : g < wo.heap.size := World.block_lt_of_cell? wo _ km
    have hao : y.a < wo.heap.size := World.block_lt_of_cell? wo _ k0
    have hpo : w.heap.size < wo.heap.size := World.block_lt_of_cell? wo _ o0
    generalize w.heap.size = po at o0 o1 o2 o3 o4 hpoM hpo ⊢
    go_quiet (fail)
    go_wp2_with fail
    go_quiet (fail)
    go_wp2_with fail
    go_region_held3 (fun w' => Bel wo w' ∧ w'.cell? ⟨y.a, 0, none⟩ = some (.pointer (some ⟨y.q, 0, none⟩)) ∧ w'.cell? ⟨po, 2, none⟩ = some (.int .i64 (m : Int)) ∧ w'.cell? ⟨po, 4, none⟩ = some (.string S)) ((exact ⟨by (repeat (first | exact Bel.refl _ | assumption | refine Bel.step_alloc ?_ _ | refine Bel.step_drew ?_ | refine Bel.step_drewN ?_ _ | refine Bel.step_set ?_ (by simp <;> omega) _ | refine Bel.trans ?_ (by assumption))), Bel.cell (a := wo) (by (repeat (first | exact Bel.refl _ | assumption | refine Bel.step_alloc ?_ _ | refine Bel.step_drew ?_ | refine Bel.step_drewN ?_ _ | refine Bel.step_set ?_ (by simp <;> omega) _ | refine Bel.trans ?_ (by assumption)))) k0, Bel.cell (a := wo) (by (repeat (first | exact Bel.refl _ | assumption | refine Bel.step_alloc ?_ _ | refine Bel.step_drew ?_ | refine Bel.step_drewN ?_ _ | refine Bel.step_set ?_ (by simp <;> omega) _ | refine Bel.trans ?_ (by assumption)))) o2, Bel.cell (a := wo) (by (repeat (first | exact Bel.refl _ | assumption | refine Bel.step_alloc ?_ _ | refine Bel.step_drew ?_ | refine Bel.step_drewN ?_ _ | refine Bel.step_set ?_ (by simp <;> omega) _ | refine Bel.trans ?_ (by assumption)))) o4⟩)) ((go_at_call 70; refine (llookup_is _ _ _ _).mono ?_; rintro e w1 ⟨rfl, hw1⟩; have hb1 : Bel wo w1 := (by rw [← hw1]; (repeat (first | exact Bel.refl _ | assumption | refine Bel.step_alloc ?_ _ | refine Bel.step_drew ?_ | refine Bel.step_drewN ?_ _ | refine Bel.step_set ?_ (by simp <;> omega) _ | refine Bel.trans ?_ (by assumption)))); clear hw1))
    have hbw1 := hbo.trans hb1
    have z1 := hbw1.cell hz.1.2.1
    have m4 := hb1.cell o4
    have hzh1 := hzh.later hbw1
    clear hbo k0 k9 km o0 o1 o2 o3 o4 hz hzh hb1
    rcases hzh1 with ⟨hh, -⟩ | ⟨q, c', B', E', hh, hst, hok, hW⟩
    · rw [hh] at z1
      go_wp2
      all_goals
        go_ret
        exact hend.out _ _ (by (repeat (first | exact Bel.refl _ | assumption | refine Bel.step_alloc ?_ _ | refine Bel.step_drew ?_ | refine Bel.step_drewN ?_ _ | refine Bel.step_set ?_ (by simp <;> omega) _ | refine Bel.trans ?_ (by assumption))))
    · rw [hh] at z1
      have hch := fun wx (b : Bel w1 wx) => choose_any q c' hg B' E' S wx (hst.later b) hok hW (by omega)
      clear hst hok hW
      go_wp2_with fail
      go_region_held3 (fun w' => Bel w1 w' ∧ w'.cell? ⟨z.p, 1, none⟩ = some (.pointer (some ⟨q, 0, none⟩)) ∧ w'.cell? ⟨po, 4, none⟩ = some (.string S)) ((exact ⟨by (repeat (first | exact Bel.refl _ | assumption | refine Bel.step_alloc ?_ _ | refine Bel.step_drew ?_ | refine Bel.step_drewN ?_ _ | refine Bel.step_set ?_ (by simp <;> omega) _ | refine Bel.trans ?_ (by assumption))), Bel.cell (a := w1) (by (repeat (first | exact Bel.refl _ | assumption | refine Bel.step_alloc ?_ _ | refine Bel.step_drew ?_ | refine Bel.step_drewN ?_ _ | refine Bel.step_set ?_ (by simp <;> omega) _ | refine Bel.trans ?_ (by assumption)))) z1, Bel.cell (a := w1) (by (repeat (first | exact Bel.refl _ | assumption | refine Bel.step_alloc ?_ _ | refine Bel.step_drew ?_ | refine Bel.step_drewN ?_ _ | refine Bel.step_set ?_ (by simp <;> omega) _ | refine Bel.trans ?_ (by assumption)))) m4⟩)) ((go_at_call 58; refine (hch _ (by (repeat (first | exact Bel.refl _ | assumption | refine Bel.step_alloc ?_ _ | refine Bel.step_drew ?_ | refine Bel.step_drewN ?_ _ | refine Bel.step_set ?_ (by simp <;> omega) _ | refine Bel.trans ?_ (by assumption))))).mono ?_; rintro e w3 ⟨id, er, rfl, hb3⟩))
      have hb13 : Bel w1 w3 := by (repeat (first | exact Bel.refl _ | assumption | refine Bel.step_alloc ?_ _ | refine Bel.step_drew ?_ | refine Bel.step_drewN ?_ _ | refine Bel.step_set ?_ (by simp <;> omega) _ | refine Bel.trans ?_ (by assumption)))
      have hbw3 := hbw1.trans hb13
      clear hch m4 hb3 hb13
      go_wp2
      all_goals
        go_ret
        exact hend.out _ _ (by (repeat (first | exact Bel.refl _ | assumption | refine Bel.step_alloc ?_ _ | refine Bel.step_drew ?_ | refine Bel.step_drewN ?_ _ | refine Bel.step_set ?_ (by simp <;> omega) _ | refine Bel.trans ?_ (by assumption))))
  · have hnone : ∀ b, decide (0 ≤ B) = b → (b = true → decide (B < (y.ps.length : Int)) = false) := fun b h1 h2 => by
      rw [h2] at h1
      have := of_decide_eq_true h1
      exact decide_eq_false (fun h3 => hin ⟨this, h3⟩)
    rw [hv] at c9
    clear hrow hps
    generalize y.ps.length = n at *
    unfold opv
    go_enter Tryz.func33, Tryz.ntmps33
    go_wp2_with fail
    obtain ⟨wo, hwo, hbo, o0, o1, o2, o3, o4⟩ := op_box w (.int .i64 17) (.int .i64 A) (.int .i64 B) (.int .i64 C) (.string S) 28
    rw [hwo]
    clear hwo
    have k0 := hbo.cell c0
    have k9 := hbo.cell c9
    have hao : y.a < wo.heap.size := World.block_lt_of_cell? wo _ k0
    have hpo : w.heap.size < wo.heap.size := World.block_lt_of_cell? wo _ o0
    generalize w.heap.size = po at o0 o1 o2 o3 o4 hpoM hpo ⊢
    have h01 : decide (0 ≤ B) = false ∨ (decide (0 ≤ B) = true ∧ decide (B < (n : Int)) = false) := by
      cases h0 : decide (0 ≤ B)
      · exact Or.inl rfl
      · exact Or.inr ⟨rfl, hnone _ h0 rfl⟩
    clear hnone hin
    rcases h01 with h0 | ⟨h0, h1⟩
    all_goals
      go_quiet (fail)
      go_wp2_with fail
      go_region_held3 (fun w' => Bel wo w' ∧ w'.cell? ⟨y.a, 0, none⟩ = some (.pointer (some ⟨y.q, 0, none⟩)) ∧ w'.cell? ⟨po, 2, none⟩ = some (.int .i64 B) ∧ w'.cell? ⟨po, 4, none⟩ = some (.string S)) ((exact ⟨by (repeat (first | exact Bel.refl _ | assumption | refine Bel.step_alloc ?_ _ | refine Bel.step_drew ?_ | refine Bel.step_drewN ?_ _ | refine Bel.step_set ?_ (by simp <;> omega) _ | refine Bel.trans ?_ (by assumption))), Bel.cell (a := wo) (by (repeat (first | exact Bel.refl _ | assumption | refine Bel.step_alloc ?_ _ | refine Bel.step_drew ?_ | refine Bel.step_drewN ?_ _ | refine Bel.step_set ?_ (by simp <;> omega) _ | refine Bel.trans ?_ (by assumption)))) k0, Bel.cell (a := wo) (by (repeat (first | exact Bel.refl _ | assumption | refine Bel.step_alloc ?_ _ | refine Bel.step_drew ?_ | refine Bel.step_drewN ?_ _ | refine Bel.step_set ?_ (by simp <;> omega) _ | refine Bel.trans ?_ (by assumption)))) o2, Bel.cell (a := wo) (by (repeat (first | exact Bel.refl _ | assumption | refine Bel.step_alloc ?_ _ | refine Bel.step_drew ?_ | refine Bel.step_drewN ?_ _ | refine Bel.step_set ?_ (by simp <;> omega) _ | refine Bel.trans ?_ (by assumption)))) o4⟩)) ((go_at_call 70; refine (llookup_is _ _ _ _).mono ?_; rintro e w1 ⟨rfl, hw1⟩; have hb1 : Bel wo w1 := (by rw [← hw1]; (repeat (first | exact Bel.refl _ | assumption | refine Bel.step_alloc ?_ _ | refine Bel.step_drew ?_ | refine Bel.step_drewN ?_ _ | refine Bel.step_set ?_ (by simp <;> omega) _ | refine Bel.trans ?_ (by assumption)))); clear hw1))
      go_wp2
      all_goals
        go_ret
        exact hend.out _ _ (hbo.trans (by (repeat (first | exact Bel.refl _ | assumption | refine Bel.step_alloc ?_ _ | refine Bel.step_drew ?_ | refine Bel.step_drewN ?_ _ | refine Bel.step_set ?_ (by simp <;> omega) _ | refine Bel.trans ?_ (by assumption)))))

end Go.Proofs.YtgfildmmcbjpnabGreat
