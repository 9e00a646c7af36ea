import Derived.Test.YtpapdkhjdelfcabGreatOAD
namespace Go.Proofs.YtpapdkhjdelfcabGreat
open Go.RowKit

theorem wl_len (part : Int) (c : Cfg) (q : Nat) (on : Cfg) (vb vw vs vh vf : Value) (img : ByteArray) : (wl part c q on vb vw vs vh vf img).length = 20 := rfl
theorem grown_but {w w' : World} {row : Option Nat} (h : w.grownBy w' row) : But row.toList w w' :=
  But.mk h.os h.tape h.output h.size (fun k hk hm => h.block k hk (fun e => hm (by rw [← e]; simp)))
theorem mask_cons {j : Nat} {M : List Nat} {w : World} (h : j ∈ M ∨ w.heap.size ≤ j) : mask (j :: M) w = mask M w :=
  mask_ext (fun _ hk => List.mem_cons_of_mem _ hk) (fun k hk => by
    rcases List.mem_cons.1 hk with e | e
    · rw [e]; exact h
    · exact Or.inl e)
theorem WentR.cons {j : Nat} {M : List Nat} {w : World} {on : Cfg} {vr : List Value} {bs : List (List BK)} (h : WentR M w on vr bs) (hj : j ∈ M ∨ w.heap.size ≤ j) : WentR (j :: M) w on vr bs := ⟨h.1, fun i v X hv hX => by rw [mask_cons hj]; exact h.2 i v X hv hX⟩
theorem gl_sl (g n c : Nat) : gl (.slice (some ⟨g, 0, none⟩) n c) = [g] := rfl
/-- a change was made: the pool is another, where keys go now is noted -/
theorem delta_inv {W0 : World} {p s : Nat} {k : KI} {w wc w4 w6 w7 : World} {LP : List BK} {v4 v6 : Value} {T : List ByteArray} {g7 cap7 : Nat} {o : Obj} (h : KInv W0 p s k w) (hb : But [k.q] w wc) (hS : SvpAt k.M k.q ⟨k.on, LP, k.g + 1, k.L, k.pp⟩ wc) (hGd : Good LP)
    (hb4 : Bel wc w4) (hO4 : OwnB wc.heap.size w4 v4 LP) (hb6 : Bel (w4.setCell ⟨p, 14, none⟩ v4) w6) (hO6 : OwnT w4.heap.size w6 v6 T) (hT : T.length = 12) (hTo : T = ownersF k.on LP (k.g + 1))
    (hown7 : w7.ownsRow W0.heap.size 40 1 (.slice (some ⟨g7, 0, none⟩) (k.vr.length + 1 + 1) cap7) (k.vr.length + 1 + 1) ((.slice none 0 0 :: k.vr) ++ [v6])) (hgrow : (w6.alloc o).grownBy w7 k.vw.ownBlock) (hat : k.vw.ownBlock = some g7 ∨ g7 = (w6.alloc o).heap.size) (hlt : g7 < w7.heap.size) :
    KInv W0 p (s + 1) { k with M := g7 :: k.M, B := LP, g := k.g + 1, vb := v4, vw := .slice (some ⟨g7, 0, none⟩) (k.vr.length + 1 + 1) cap7, vr := k.vr ++ [v6], bs := k.bs ++ [LP] } (w7.setCell ⟨p, 15, none⟩ (.slice (some ⟨g7, 0, none⟩) (k.vr.length + 1 + 1) cap7)) := by
  have hle := h.le
  have hpM := h.inM _ h.p_in
  have hqM := h.inM _ h.q_in
  have h1p : 1 ≤ [p].count p := cnt_mem.1 (by simp)
  have h1q : 1 ≤ (k.svp.own k.q).count k.q := cnt_mem.1 (by simp [Svp.own])
  have hpq : p ≠ k.q := fun e => by
    have a1 := hle p
    have a2 : 1 ≤ (k.svp.own k.q).count p := by rw [e]; exact h1q
    omega
  have hvwM : ∀ j ∈ gl k.vw, j ∈ k.blocks p := fun j hj => cnt_mem.2 (by rw [KI.count]; have := cnt_mem.1 hj; omega)
  have hvw : gl k.vw = k.vw.ownBlock.toList := rfl
  have b1 : But [p] wc (w6.alloc o) := ((But.of_bel hb4).set (by simp) _).step (hb6.step_alloc _)
  have b2 : But (gl k.vw) (w6.alloc o) w7 := grown_but hgrow
  have b3 : But [p] w7 (w7.setCell ⟨p, 15, none⟩ (.slice (some ⟨g7, 0, none⟩) (k.vr.length + 1 + 1) cap7)) := (But.refl _ _).set (by simp) _
  generalize hwF : w7.setCell ⟨p, 15, none⟩ (.slice (some ⟨g7, 0, none⟩) (k.vr.length + 1 + 1) cap7) = wF at *
  have z0 := hb.size
  have z1 := b1.size
  have z4 := hb4.size
  have z6 : w4.heap.size ≤ w6.heap.size := by have := hb6.size; simpa [World.setCell] using this
  have z2 := b2.size
  have z3 := b3.size
  have bA : But (p :: k.q :: gl k.vw) w wF := by
    have c0 : But (p :: k.q :: gl k.vw) w wc := hb.mono (fun j hj => Or.inl (by rw [List.mem_singleton.1 hj]; simp))
    have c1 : But (p :: k.q :: gl k.vw) wc (w6.alloc o) := b1.mono (fun j hj => Or.inl (by rw [List.mem_singleton.1 hj]; simp))
    have c2 : But (p :: k.q :: gl k.vw) (w6.alloc o) w7 := b2.mono (fun j hj => Or.inl (by simp [hj]))
    have c3 : But (p :: k.q :: gl k.vw) w7 wF := b3.mono (fun j hj => Or.inl (by rw [List.mem_singleton.1 hj]; simp))
    exact ((c0.trans c1).trans c2).trans c3
  have hNb : ∀ j ∈ p :: k.q :: gl k.vw, j ∈ k.blocks p := fun j hj => by
    rcases List.mem_cons.1 hj with e | hj
    · rw [e]; exact h.p_in
    · rcases List.mem_cons.1 hj with e | hj
      · rw [e]; exact h.q_in
      · exact hvwM j hj
  have K := h.keep _ bA hNb
  have hN0 : ∀ j ∈ p :: k.q :: gl k.vw, 1 ≤ [p].count j + (gl k.vw).count j + (k.svp.own k.q).count j := fun j hj => by
    rcases List.mem_cons.1 hj with e | hj
    · rw [e]; omega
    · rcases List.mem_cons.1 hj with e | hj
      · rw [e]; omega
      · have := cnt_mem.1 hj; omega
  have hout : ∀ L : List Nat, (∀ j, [p].count j + (gl k.vw).count j + (k.svp.own k.q).count j + L.count j ≤ 1) → ∀ j ∈ L, j ∉ p :: k.q :: gl k.vw := fun L hL j hj e => by
    have a1 := hN0 j e
    have a2 := hL j
    have a3 := cnt_mem.1 hj
    omega
  have hg7 : g7 ∈ k.M ∨ (w6.alloc o).heap.size ≤ g7 := hat.elim (fun e => Or.inl (h.inM _ (hvwM g7 (by rw [hvw, e]; simp)))) (fun e => Or.inr (by omega))
  have hg7w : ∀ wx : World, wx.heap.size ≤ (w6.alloc o).heap.size → g7 ∈ k.M ∨ wx.heap.size ≤ g7 := fun wx hx => hg7.imp id (fun e => by omega)
  have hg0 : W0.heap.size ≤ g7 := (World.ownsRow.lt hown7 g7 rfl).1
  have hg7p : g7 ≠ p := fun e => by
    rcases hat with h1 | h1
    · have := hle p
      have a3 : 1 ≤ (gl k.vw).count p := cnt_mem.1 (by rw [hvw, h1, e]; simp)
      omega
    · have := (h.lt p hpM).2; omega
  have hpv : p ∉ gl k.vw := fun e => by
    have := hle p
    have := cnt_mem.1 e
    omega
  have hown : ∀ N : List Nat, (∀ j ∈ N, j = p ∨ j ∈ gl k.vw) → ∀ j ∈ N, j ∉ (Svp.mk k.on LP (k.g + 1) k.L k.pp).own k.q := fun N hN j hj e => by
    have e2 : j ∈ k.svp.own k.q := e
    have a1 := cnt_mem.1 e2
    have a2 := hle j
    rcases hN j hj with e3 | e3
    · rw [e3] at a1 a2; omega
    · have := cnt_mem.1 e3; omega
  have hWc := h.at_.but hb (by simpa using hpq)
  have hW4 := (hWc.later hb4).set 14 v4
  have hW7 := ((hW4.later (hb6.step_alloc o)).but b2 hpv).set 15 (.slice (some ⟨g7, 0, none⟩) (k.vr.length + 1 + 1) cap7)
  rw [hwF] at hW7
  have hS1 := hS.but b1 (hown _ (fun j hj => Or.inl (List.mem_singleton.1 hj))) (fun j hj => Or.inl (by rw [List.mem_singleton.1 hj]; exact hpM))
  have hS2 := hS1.wide (M' := g7 :: k.M) (fun _ hk => List.mem_cons_of_mem _ hk) (fun j hj => by
    rcases List.mem_cons.1 hj with e | e
    · rw [e]; exact hg7
    · exact Or.inl e)
  have hS3 := hS2.but b2 (hown _ (fun j hj => Or.inr hj)) (fun j hj => Or.inl (List.mem_cons_of_mem _ (h.inM _ (hvwM j hj))))
  have hS4 := hS3.but b3 (hown _ (fun j hj => Or.inl (List.mem_singleton.1 hj))) (fun j hj => Or.inl (by rw [List.mem_singleton.1 hj]; exact List.mem_cons_of_mem _ hpM))
  have hMlt : ∀ j ∈ k.M, j < wc.heap.size := fun j hj => by have := (h.lt j hj).2; omega
  have hP4 : PoolAt (mask k.M w4) v4 LP := mask_row hO4 (fun j hj => hMlt j hj)
  have b4 : But [p] w4 (w6.alloc o) := ((But.refl _ _).set (by simp) _).step (hb6.step_alloc _)
  have hpMw : ∀ (wx : World), ∀ j ∈ [p], j ∈ k.M ∨ wx.heap.size ≤ j := fun _ j hj => Or.inl (by rw [List.mem_singleton.1 hj]; exact hpM)
  have hP6 : PoolAt (mask k.M (w6.alloc o)) v4 LP := hP4.later (b4.mono (hpMw _))
  have b23 : But (g7 :: k.M) (w6.alloc o) wF := (b2.mono (fun j hj => Or.inl (List.mem_cons_of_mem _ (h.inM _ (hvwM j hj))))).trans (b3.mono (fun j hj => Or.inl (by rw [List.mem_singleton.1 hj]; exact List.mem_cons_of_mem _ hpM)))
  have hv6 : RowAt (mask k.M w6) v6 T.length (T.map Value.string) := mask_row hO6 (fun j hj => by have := hMlt j hj; omega)
  have hv7 : RowAt (mask k.M (w6.alloc o)) v6 T.length (T.map Value.string) := hv6.later (But.of_bel ((Bel.refl w6).step_alloc o))
  rw [← mask_cons hg7] at hP6 hv7
  have hwr := (h.wrow.cons (hg7w w (by omega))).but bA (fun j hj => Or.inl (List.mem_cons_of_mem _ (h.inM _ (hNb j hj))))
  refine ⟨hW7, ?_, fun j hj => ?_, fun j hj => ?_, K.bel, hS4, hP6.later b23, hGd, h.cok, h.onok, ⟨by show 0 ≤ k.g + 1; have := h.gen.1; omega, by show k.g + 1 ≤ ((s + 1 : Nat) : Int); have := h.gen.2.1; omega, fun e => by have e2 : k.g + 1 = 0 := e; have := h.gen.1; omega⟩, ?_, ?_, ?_, K.speaks (hout _ (fun j => by have := hle j; omega)), K.held (hout _ (fun j => by have := hle j; omega)), h.slen, h.hlen, h.hrng, K.frames (hout _ (fun j => by have := hle j; omega)), h.flen, h.fsz, h.isz⟩
  · refine List.nodup_iff_count.2 fun a => ?_
    rw [KI.count]
    simp only [gl_sl]
    have a1 := hle a
    have a0 : (KI.svp { k with M := g7 :: k.M, B := LP, g := k.g + 1, vb := v4, vw := .slice (some ⟨g7, 0, none⟩) (k.vr.length + 1 + 1) cap7, vr := k.vr ++ [v6], bs := k.bs ++ [LP] }).own k.q = k.svp.own k.q := rfl
    rw [a0]
    rcases hat with e | e
    · have a2 : (gl k.vw).count a = [g7].count a := by rw [hvw, e]; rfl
      omega
    · by_cases hag : g7 = a
      · subst hag
        have a3 : (k.blocks p).count g7 = 0 := Nat.eq_zero_of_not_pos fun e2 => by
          have := (h.lt g7 (h.inM g7 (List.count_pos_iff.1 e2))).2
          omega
        rw [KI.count] at a3
        have a4 : [g7].count g7 ≤ 1 := cnt_le (by simp) g7
        omega
      · have a4 : [g7].count a = 0 := Nat.eq_zero_of_not_pos fun e2 => hag (List.mem_singleton.1 (List.count_pos_iff.1 e2)).symm
        omega
  · have a0 := cnt_mem.1 hj
    rw [KI.count] at a0
    simp only [gl_sl] at a0
    by_cases hag : j = g7
    · rw [hag]; exact List.mem_cons_self
    · refine List.mem_cons_of_mem _ (h.inM j (cnt_mem.2 ?_))
      rw [KI.count]
      have a4 : [g7].count j = 0 := Nat.eq_zero_of_not_pos fun e2 => hag (List.mem_singleton.1 (List.count_pos_iff.1 e2))
      have a5 : (KI.svp { k with M := g7 :: k.M, B := LP, g := k.g + 1, vb := v4, vw := .slice (some ⟨g7, 0, none⟩) (k.vr.length + 1 + 1) cap7, vr := k.vr ++ [v6], bs := k.bs ++ [LP] }).own k.q = k.svp.own k.q := rfl
      rw [a5] at a0
      omega
  · rcases List.mem_cons.1 hj with e | hj
    · rw [e]; exact ⟨hg0, by omega⟩
    · exact K.lt j hj
  · show wF.ownsRow _ _ _ _ ((k.vr ++ [v6]).length + 1) (.slice none 0 0 :: (k.vr ++ [v6]))
    have := ownB_but hown7 b3 (fun g hg e => by
      rw [gl_sl] at hg
      exact hg7p (by rw [← List.mem_singleton.1 hg, List.mem_singleton.1 e]))
    simpa using this
  · show ((k.vr ++ [v6]).length : Int) = k.g + 1
    have := h.wlen
    simp
    omega
  · have hl := hwr.1
    refine ⟨by show (k.bs ++ [LP]).length = (k.vr ++ [v6]).length; rw [List.length_append, List.length_append, hl]; rfl, fun i v X hv hX => ?_⟩
    have hv' : (k.vr ++ [v6])[i]? = some v := hv
    have hX' : (k.bs ++ [LP])[i]? = some X := hX
    by_cases hi : i < k.vr.length
    · rw [List.getElem?_append_left hi] at hv'
      rw [List.getElem?_append_left (by omega)] at hX'
      exact hwr.2 i v X hv' hX'
    · have hi2 : i = k.vr.length := by
        have := (List.getElem?_eq_some_iff.1 hv').1
        rw [List.length_append, List.length_singleton] at this
        omega
      subst hi2
      rw [List.getElem?_append_right (Nat.le_refl _), Nat.sub_self] at hv'
      rw [← hl, List.getElem?_append_right (Nat.le_refl _), Nat.sub_self] at hX'
      have ev : v6 = v := Option.some.inj hv'
      have eX : LP = X := Option.some.inj hX'
      subst ev eX
      have := hv7.later b23
      rw [hT, hTo] at this
      rw [h.wlen]
      exact this

end Go.Proofs.YtpapdkhjdelfcabGreat
