import Derived.Test.YtpapdkhjdelfcabGreatQBL
namespace Go.Proofs.YtpapdkhjdelfcabGreat
open Go.RowKit

theorem lawPool_lenT (id : ByteArray) (n : Int) (B : List BK) : (lawPool id n true B).length ≤ B.length := by
  induction B with
  | nil => simp [lawPool]
  | cons b B ih =>
    simp only [lawPool]
    rw [if_neg (by simp), ite_self]
    simp only [List.nil_append, List.length_append, List.length_cons]
    split
    · simp; omega
    · simp; omega
theorem lawPool_len (id : ByteArray) (n : Int) (put : Bool) (B : List BK) : (lawPool id n put B).length ≤ B.length + 1 := by
  cases put
  · induction B with
    | nil => simp [lawPool]
    | cons b B ih =>
      simp only [lawPool]
      have hT := lawPool_lenT id n B
      cases less b.1 id
      · simp only [and_self, if_true, List.length_append, List.length_cons, List.length_nil]
        split <;> simp <;> omega
      · simp only [Bool.true_eq_false, and_false, if_false, List.nil_append, List.length_append, List.length_cons]
        split <;> simp <;> omega
  · have := lawPool_lenT id n B; omega

set_option maxRecDepth 100000 in
set_option maxHeartbeats 800000 in
theorem pool_is (B : List BK) (v : Value) (id : ByteArray) (n : Int) (w : World) (hP : PoolAt w v B) (hB : B.length ≤ 8) :
    Calls Tryz.prog 131 #[v, .string id, .int .i64 n] w (RPool w (lawPool id n (decide (n < 0)) B)) := by
  obtain ⟨i0, hi, hz0, hz1, hz2⟩ := info_parts Tryz.infoBK
  obtain ⟨ao, cap, rfl, hc⟩ := hP.open
  obtain ⟨X, hX⟩ : ∃ X, X = lawPool id n (decide (n < 0)) B := ⟨_, rfl⟩
  rw [← hX]
  have hXl : X.length ≤ 9 := by have := lawPool_len id n (decide (n < 0)) B; rw [← hX] at this; omega
  go_enter Tryz.func131, Tryz.ntmps131
  go_wp2
  go_loopg [7, 8, 9] (B.length + 1) (fun r vL vp ni wr => Bel w wr ∧ ∃ (k : Nat) (put : Bool) (L : List BK), r = B.length + 1 - k ∧ k ≤ B.length + 1 ∧ ni = .int .i64 k ∧ vp = .bool put ∧ OwnB w.heap.size wr vL L ∧ ((k ≤ B.length ∧ L ++ lawPool id n put (B.drop k) = X) ∨ (k = B.length + 1 ∧ L = X)))
  case atStart => exact ⟨Bel.refl _, 0, _, [], by omega, by omega, rfl, rfl, World.ownsRow_nil _ _ _ _, Or.inl ⟨by omega, by simpa using hX.symm⟩⟩
  case round =>
    obtain ⟨hb, k, put, L, hr, hk, rfl, rfl, hL, hor⟩ := hrel
    have HO := Hid.mk hL
    have hwr := hb.size
    clear hL hX
    rcases hor with ⟨hkl, heq⟩ | ⟨hkl, heq⟩
    · have hLl : L.length ≤ 9 := by
        have := congrArg List.length heq
        rw [List.length_append] at this
        omega
      have hle : decide ((k : Int) ≤ (B.length : Int)) = true := decide_eq_true (by omega)
      by_cases hlt : k < B.length
      · obtain ⟨g, rfl, c0, c1⟩ := hc k hlt
        have c0' := hb.cell c0
        have c1' := hb.cell c1
        rw [List.drop_eq_getElem_cons hlt] at heq
        simp only [lawPool] at heq
        have HEq := Hid.mk heq
        have hkne : ((k : Int) == (B.length : Int)) = false := by rw [beq_eq_false_iff_ne]; omega
        have hkl2 : decide ((k : Int) < (B.length : Int)) = true := decide_eq_true (by omega)
        have HLs : Hid (less B[k].1 id = Op.bytesLess B[k].1.toList id.toList) := rfl
        have HEI : Hid (((B[k].1.toList == id.toList) = true) ↔ B[k].1 = id) := str_eq
        clear hc heq
        generalize B[k] = bk at *
        obtain ⟨idk, wk⟩ := bk
        simp only at c0 c1 c0' c1' HEq HLs HEI
        rw [HLs.out] at HEq
        clear HLs
        generalize hless : Op.bytesLess idk.toList id.toList = ls at *
        generalize heqq : (idk.toList == id.toList) = eqb at *
        have HEB : Hid ((if idk ≠ id then [(idk, wk)] else []) = (if eqb then [] else [(idk, wk)])) := by
          show _ = _
          cases eqb
          · have : idk ≠ id := fun e => by have := HEI.out.2 e; cases this
            simp [this]
          · have : idk = id := HEI.out.1 rfl
            simp [this]
        rw [HEB.out] at HEq
        clear HEB HEI
        have hLl2 : L.length ≤ 7 ∨ L.length ≤ 9 := Or.inr hLl
        clear hLl2
        cases put
        · cases ls
          · cases eqb
            · go_wp2_with (first | (at_builtin; refine wpList_append_own _ rfl _ _ 58 rfl w.heap.size 75 i0 (.agg #[.string ByteArray.empty, .int .i64 0]) 2 24 Tryz.underlying58 hi hz0 hz1 hz2 rfl (by decide) _ (L).length (pcells (L)) rfl ?p1b ⟨wr.heap.size, 0, none⟩ 1 1 [.string id, .int .i64 n] rfl rfl ?db1 ?db2 ?db3 ?db4 ?db5 ?_))
              case p1b => exact World.ownsRow.alloc HO.out _
              try (case db1 => exact two_new _ _ _ _ _ (by simp))
              case db2 => first | exact ⟨rfl, rfl⟩ | exact two_one rfl rfl | (intro u hu; simp at hu; rcases hu with rfl | rfl <;> rfl)
              case db3 => (try simp only [List.length_append, List.length_cons, List.length_nil]); unfold maxLen; omega
              case db4 => (try simp only [List.length_append, List.length_cons, List.length_nil]); omega
              case db5 => first | omega | (simp; omega)
              intro v2 w2 hown2 hgrow2 _
              have hb2 : Bel w w2 := (hb.step_alloc _).grown hgrow2 (fun g hg => (World.ownsRow.lt HO.out g hg).1)
              have H2 := Hid.mk (OwnB.snoc (b := (id, n)) hown2 (by simp))
              have hs2 := hb2.size
              clear hown2 hgrow2
              have x0 := hb2.cell c0
              have x1 := hb2.cell c1
              go_wp2_with (first | (at_builtin; refine wpList_append_own _ rfl _ _ 58 rfl w.heap.size 75 i0 (.agg #[.string ByteArray.empty, .int .i64 0]) 2 24 Tryz.underlying58 hi hz0 hz1 hz2 rfl (by decide) _ (L ++ [(id, n)]).length (pcells (L ++ [(id, n)])) rfl ?p1c ⟨w2.heap.size, 0, none⟩ 1 1 [.string idk, .int .i64 wk] rfl rfl ?dc1 ?dc2 ?dc3 ?dc4 ?dc5 ?_))
              case p1c => exact World.ownsRow.alloc H2.out _
              try (case dc1 => exact two_new _ _ _ _ _ (by simp))
              case dc2 => first | exact ⟨rfl, rfl⟩ | exact two_one rfl rfl | (intro u hu; simp at hu; rcases hu with rfl | rfl <;> rfl)
              case dc3 => (try simp only [List.length_append, List.length_cons, List.length_nil]); unfold maxLen; omega
              case dc4 => (try simp only [List.length_append, List.length_cons, List.length_nil]); omega
              case dc5 => first | omega | (simp; omega)
              intro v3 w3 hown3 hgrow3 _
              have hb3 : Bel w w3 := (hb2.step_alloc _).grown hgrow3 (fun g hg => (World.ownsRow.lt H2.out g hg).1)
              have H3 := Hid.mk (OwnB.snoc (b := (idk, wk)) hown3 (by simp))
              have hs3 := hb3.size
              clear hown3 hgrow3
              go_wp2
              go_roundg (B.length + 1 - (k + 1))
              case measure => omega
              case rel => exact ⟨hb3, k + 1, true, _, rfl, by omega, by go_num, rfl, H3.out, Or.inl ⟨by omega, by have := HEq.out; simpa using this⟩⟩
            · go_wp2_with (first | (at_builtin; refine wpList_append_own _ rfl _ _ 58 rfl w.heap.size 75 i0 (.agg #[.string ByteArray.empty, .int .i64 0]) 2 24 Tryz.underlying58 hi hz0 hz1 hz2 rfl (by decide) _ (L).length (pcells (L)) rfl ?p1d ⟨wr.heap.size, 0, none⟩ 1 1 [.string id, .int .i64 n] rfl rfl ?dd1 ?dd2 ?dd3 ?dd4 ?dd5 ?_))
              case p1d => exact World.ownsRow.alloc HO.out _
              try (case dd1 => exact two_new _ _ _ _ _ (by simp))
              case dd2 => first | exact ⟨rfl, rfl⟩ | exact two_one rfl rfl | (intro u hu; simp at hu; rcases hu with rfl | rfl <;> rfl)
              case dd3 => (try simp only [List.length_append, List.length_cons, List.length_nil]); unfold maxLen; omega
              case dd4 => (try simp only [List.length_append, List.length_cons, List.length_nil]); omega
              case dd5 => first | omega | (simp; omega)
              intro v2 w2 hown2 hgrow2 _
              have hb2 : Bel w w2 := (hb.step_alloc _).grown hgrow2 (fun g hg => (World.ownsRow.lt HO.out g hg).1)
              have H2 := Hid.mk (OwnB.snoc (b := (id, n)) hown2 (by simp))
              have hs2 := hb2.size
              clear hown2 hgrow2
              have x0 := hb2.cell c0
              have x1 := hb2.cell c1
              go_wp2
              go_roundg (B.length + 1 - (k + 1))
              case measure => omega
              case rel => exact ⟨hb2, k + 1, true, _, rfl, by omega, by go_num, rfl, H2.out, Or.inl ⟨by omega, by have := HEq.out; simpa using this⟩⟩
          · cases eqb
            · go_wp2_with (first | (at_builtin; refine wpList_append_own _ rfl _ _ 58 rfl w.heap.size 75 i0 (.agg #[.string ByteArray.empty, .int .i64 0]) 2 24 Tryz.underlying58 hi hz0 hz1 hz2 rfl (by decide) _ (L).length (pcells (L)) rfl ?p1e ⟨wr.heap.size, 0, none⟩ 1 1 [.string idk, .int .i64 wk] rfl rfl ?de1 ?de2 ?de3 ?de4 ?de5 ?_))
              case p1e => exact World.ownsRow.alloc HO.out _
              try (case de1 => exact two_new _ _ _ _ _ (by simp))
              case de2 => first | exact ⟨rfl, rfl⟩ | exact two_one rfl rfl | (intro u hu; simp at hu; rcases hu with rfl | rfl <;> rfl)
              case de3 => (try simp only [List.length_append, List.length_cons, List.length_nil]); unfold maxLen; omega
              case de4 => (try simp only [List.length_append, List.length_cons, List.length_nil]); omega
              case de5 => first | omega | (simp; omega)
              intro v2 w2 hown2 hgrow2 _
              have hb2 : Bel w w2 := (hb.step_alloc _).grown hgrow2 (fun g hg => (World.ownsRow.lt HO.out g hg).1)
              have H2 := Hid.mk (OwnB.snoc (b := (idk, wk)) hown2 (by simp))
              have hs2 := hb2.size
              clear hown2 hgrow2
              go_wp2
              go_roundg (B.length + 1 - (k + 1))
              case measure => omega
              case rel => exact ⟨hb2, k + 1, false, _, rfl, by omega, by go_num, rfl, H2.out, Or.inl ⟨by omega, by have := HEq.out; simpa using this⟩⟩
            · go_wp2
              go_roundg (B.length + 1 - (k + 1))
              case measure => omega
              case rel => exact ⟨hb, k + 1, false, _, rfl, by omega, by go_num, rfl, HO.out, Or.inl ⟨by omega, by have := HEq.out; simpa using this⟩⟩
        · cases eqb
          · go_wp2_with (first | (at_builtin; refine wpList_append_own _ rfl _ _ 58 rfl w.heap.size 75 i0 (.agg #[.string ByteArray.empty, .int .i64 0]) 2 24 Tryz.underlying58 hi hz0 hz1 hz2 rfl (by decide) _ (L).length (pcells (L)) rfl ?p1f ⟨wr.heap.size, 0, none⟩ 1 1 [.string idk, .int .i64 wk] rfl rfl ?df1 ?df2 ?df3 ?df4 ?df5 ?_))
            case p1f => exact World.ownsRow.alloc HO.out _
            try (case df1 => exact two_new _ _ _ _ _ (by simp))
            case df2 => first | exact ⟨rfl, rfl⟩ | exact two_one rfl rfl | (intro u hu; simp at hu; rcases hu with rfl | rfl <;> rfl)
            case df3 => (try simp only [List.length_append, List.length_cons, List.length_nil]); unfold maxLen; omega
            case df4 => (try simp only [List.length_append, List.length_cons, List.length_nil]); omega
            case df5 => first | omega | (simp; omega)
            intro v2 w2 hown2 hgrow2 _
            have hb2 : Bel w w2 := (hb.step_alloc _).grown hgrow2 (fun g hg => (World.ownsRow.lt HO.out g hg).1)
            have H2 := Hid.mk (OwnB.snoc (b := (idk, wk)) hown2 (by simp))
            have hs2 := hb2.size
            clear hown2 hgrow2
            go_wp2
            go_roundg (B.length + 1 - (k + 1))
            case measure => omega
            case rel => exact ⟨hb2, k + 1, true, _, rfl, by omega, by go_num, rfl, H2.out, Or.inl ⟨by omega, by have := HEq.out; simpa using this⟩⟩
          · go_wp2
            go_roundg (B.length + 1 - (k + 1))
            case measure => omega
            case rel => exact ⟨hb, k + 1, true, _, rfl, by omega, by go_num, rfl, HO.out, Or.inl ⟨by omega, by have := HEq.out; simpa using this⟩⟩
      · obtain rfl : k = B.length := by omega
        have hkl2 : decide ((B.length : Int) < (B.length : Int)) = false := decide_eq_false (by omega)
        rw [List.drop_length] at heq
        have HEq := Hid.mk heq
        clear hc heq
        cases put
        · go_wp2_with (first | (at_builtin; refine wpList_append_own _ rfl _ _ 58 rfl w.heap.size 75 i0 (.agg #[.string ByteArray.empty, .int .i64 0]) 2 24 Tryz.underlying58 hi hz0 hz1 hz2 rfl (by decide) _ (L).length (pcells (L)) rfl ?p1g ⟨wr.heap.size, 0, none⟩ 1 1 [.string id, .int .i64 n] rfl rfl ?dg1 ?dg2 ?dg3 ?dg4 ?dg5 ?_))
          case p1g => exact World.ownsRow.alloc HO.out _
          try (case dg1 => exact two_new _ _ _ _ _ (by simp))
          case dg2 => first | exact ⟨rfl, rfl⟩ | exact two_one rfl rfl | (intro u hu; simp at hu; rcases hu with rfl | rfl <;> rfl)
          case dg3 => (try simp only [List.length_append, List.length_cons, List.length_nil]); unfold maxLen; omega
          case dg4 => (try simp only [List.length_append, List.length_cons, List.length_nil]); omega
          case dg5 => first | omega | (simp; omega)
          intro v2 w2 hown2 hgrow2 _
          have hb2 : Bel w w2 := (hb.step_alloc _).grown hgrow2 (fun g hg => (World.ownsRow.lt HO.out g hg).1)
          have H2 := Hid.mk (OwnB.snoc (b := (id, n)) hown2 (by simp))
          have hs2 := hb2.size
          clear hown2 hgrow2
          go_wp2
          go_roundg 0
          case measure => omega
          case rel => exact ⟨hb2, B.length + 1, true, _, by omega, by omega, by go_num, rfl, H2.out, Or.inr ⟨rfl, by have := HEq.out; simpa [lawPool] using this⟩⟩
        · go_wp2
          go_roundg 0
          case measure => omega
          case rel => exact ⟨hb, B.length + 1, true, _, by omega, by omega, by go_num, rfl, HO.out, Or.inr ⟨rfl, by have := HEq.out; simpa [lawPool] using this⟩⟩
    · have hle : decide ((k : Int) ≤ (B.length : Int)) = false := decide_eq_false (by omega)
      have HEq := Hid.mk heq
      clear hc heq
      go_wp2
      go_ret
      exact ⟨_, rfl, hb, by rw [← HEq.out]; exact HO.out⟩

end Go.Proofs.YtpapdkhjdelfcabGreat

namespace Go.Proofs.YtpapdkhjdelfcabGreat
open Go.RowKit

/-- the law's world, as cells -/
def wl (part : Int) (c : Cfg) (q : Nat) (on : Cfg) (vb vw vs vh vf : Value) (img : ByteArray) : List Value :=
  [.int .i64 part, .int .i64 c.alg, .int .i64 c.slots, .int .i64 c.points, .int .i64 c.probes, .string c.key, .int .i64 c.formats, .pointer (some ⟨q, 0, none⟩), .int .i64 on.alg, .int .i64 on.slots, .int .i64 on.points, .int .i64 on.probes, .string on.key, .int .i64 on.formats, vb, vw, vs, vh, vf, .string img]
def WAt (p : Nat) (L : List Value) (w : World) : Prop := (∀ o u, L[o]? = some u → w.cell? ⟨p, o, none⟩ = some u) ∧ ∀ o, o < L.length → w.frozen? ⟨p, o, none⟩ = false
theorem WAt.but {M : List Nat} {p : Nat} {L : List Value} {w w' : World} (h : WAt p L w) (k : But M w w') (hp : p ∉ M) : WAt p L w' :=
  ⟨fun o u hu => k.cell (h.1 o u hu) hp, fun o ho => k.frozen (h.1 o L[o] (by simp [ho])) hp (h.2 o ho)⟩
theorem WAt.later {p : Nat} {L : List Value} {w w' : World} (h : WAt p L w) (k : Bel w w') : WAt p L w' := h.but (M := []) (But.of_bel k) (by simp)
theorem WAt.set {p : Nat} {L : List Value} {w : World} (h : WAt p L w) (o : Nat) (u : Value) : WAt p (L.set o u) (w.setCell ⟨p, o, none⟩ u) := by
  refine ⟨fun j x hx => ?_, fun j hj => by rw [frozen_set]; exact h.2 j (by simpa using hj)⟩
  by_cases hjo : o = j
  · subst hjo
    have hl := (List.getElem?_eq_some_iff.1 hx).1
    rw [List.length_set] at hl
    rw [List.getElem?_set_self hl] at hx
    cases hx
    exact set_same (h.1 o L[o] (by simp [hl]))
  · rw [List.getElem?_set_ne hjo] at hx
    rw [set_other (Or.inr hjo)]
    exact h.1 j x hx
theorem WAt.other {p : Nat} {L : List Value} {w : World} (h : WAt p L w) {a : Addr} (ha : a.block ≠ p) (u : Value) : WAt p L (w.setCell a u) :=
  h.but (M := [a.block]) ((But.refl _ _).set (by simp) u) (by simpa using fun e => ha e.symm)
theorem WAt.lt {p : Nat} {L : List Value} {w : World} (h : WAt p L w) (hL : 0 < L.length) : p < w.heap.size := World.block_lt_of_cell? w _ (h.1 0 L[0] (by simp [hL]))

set_option maxRecDepth 100000 in
set_option maxHeartbeats 400000 in
theorem fails_is (p : Nat) (L : List Value) (x : Int) (w : World) (h : WAt p L w) (hL : 0 < L.length) :
    Calls Tryz.prog 69 #[.pointer (some ⟨p, 0, none⟩), .int .i64 x] w fun e w' => e = .returned (.bool false) ∧ w' = w.setCell ⟨p, 0, none⟩ (.int .i64 x) := by
  have h0 := h.1 0 L[0] (by simp [hL])
  have f0 := h.2 0 hL
  go_enter Tryz.func69, Tryz.ntmps69
  go_wp2
  go_ret
  exact ⟨rfl, rfl⟩

theorem ownB_but {M : List Nat} {base : Nat} {e : TypeId} {sz : Nat} {v : Value} {n : Nat} {xs : List Value} {w w' : World} (h : w.ownsRow base e sz v n xs) (b : But M w w') (hne : ∀ g ∈ gl v, g ∉ M) : w'.ownsRow base e sz v n xs := own_row_but h b hne
/-- the world of a law between two steps -/
structure KI where
  M : List Nat
  q : Nat
  c : Cfg
  on : Cfg
  B : List BK
  g : Int
  vb : Value
  vw : Value
  vs : Value
  vh : Value
  vf : Value
  img : ByteArray
  part : Int
  L : List Nat
  pp : List (Nat × Pln × List Nat)
  vr : List Value
  sp : List Int
  hd : List Int
  fr : List ByteArray
  fb : Nat
  ds : Nat
  dh : Nat
def KI.svp (k : KI) : Svp := ⟨k.on, k.B, k.g, k.L, k.pp⟩
/-- the blocks that are written, all of them -/
def KI.blocks (k : KI) (p : Nat) : List Nat := p :: (gl k.vw ++ gl k.vs ++ gl k.vh ++ gl k.vf ++ k.svp.own k.q)
theorem KI.count (k : KI) (p a : Nat) : (k.blocks p).count a = [p].count a + (gl k.vw).count a + (gl k.vs).count a + (gl k.vh).count a + (gl k.vf).count a + (k.svp.own k.q).count a := by
  have : k.blocks p = [p] ++ (gl k.vw ++ gl k.vs ++ gl k.vh ++ gl k.vf ++ k.svp.own k.q) := rfl
  rw [this]
  simp only [List.count_append]
  omega
/-- where keys went, by generation: rows of twelve texts that nobody writes -/
def WentR (M : List Nat) (w : World) (vr : List Value) : Prop := ∀ v ∈ vr, ∃ T : List ByteArray, T.length = 12 ∧ RowAt (mask M w) v 12 (T.map Value.string)
structure KInv (W0 : World) (p s : Nat) (k : KI) (w : World) : Prop where
  at_ : WAt p (wl k.part k.c k.q k.on k.vb k.vw k.vs k.vh k.vf k.img) w
  nd : (k.blocks p).Nodup
  inM : ∀ j ∈ k.blocks p, j ∈ k.M
  lt : ∀ j ∈ k.M, W0.heap.size ≤ j ∧ j < w.heap.size
  bel : Bel W0 w
  svc : SvpAt k.M k.q k.svp w
  pool : PoolAt (mask k.M w) k.vb k.B
  good : Good k.B
  cok : k.c.OK
  onok : k.on.OK
  gen : 0 ≤ k.g ∧ k.g ≤ s ∧ (k.g = 0 → k.B = [])
  went : w.ownsRow W0.heap.size 40 1 k.vw (k.vr.length + 1) (.slice none 0 0 :: k.vr)
  wlen : (k.vr.length : Int) = k.g
  wrow : WentR k.M w k.vr
  speaks : OwnI W0.heap.size w k.vs k.sp
  held : OwnI W0.heap.size w k.vh k.hd
  slen : k.sp.length + k.ds = k.pp.length
  hlen : k.hd.length + k.dh = k.pp.length
  hrng : ∀ x ∈ k.hd, 0 ≤ x ∧ x ≤ 1073741824
  frames : w.ownsRow W0.heap.size 9 1 k.vf k.fr.length (k.fr.map Value.string)
  flen : k.fr.length ≤ k.fb
  fsz : ∀ t ∈ k.fr, t.size ≤ 1099511627776
  isz : k.img.size ≤ 1099511627776
/-- what stays whatever is written into some of its blocks -/
structure KKeep (W0 : World) (p : Nat) (k : KI) (N : List Nat) (w' : World) : Prop where
  lt : ∀ j ∈ k.M, W0.heap.size ≤ j ∧ j < w'.heap.size
  bel : Bel W0 w'
  pool : PoolAt (mask k.M w') k.vb k.B
  wrow : WentR k.M w' k.vr
  at_ : p ∉ N → WAt p (wl k.part k.c k.q k.on k.vb k.vw k.vs k.vh k.vf k.img) w'
  svc : (∀ j ∈ N, j ∉ k.svp.own k.q) → SvpAt k.M k.q k.svp w'
  went : (∀ j ∈ gl k.vw, j ∉ N) → w'.ownsRow W0.heap.size 40 1 k.vw (k.vr.length + 1) (.slice none 0 0 :: k.vr)
  speaks : (∀ j ∈ gl k.vs, j ∉ N) → OwnI W0.heap.size w' k.vs k.sp
  held : (∀ j ∈ gl k.vh, j ∉ N) → OwnI W0.heap.size w' k.vh k.hd
  frames : (∀ j ∈ gl k.vf, j ∉ N) → w'.ownsRow W0.heap.size 9 1 k.vf k.fr.length (k.fr.map Value.string)
theorem WentR.but {M N : List Nat} {w w' : World} {vr : List Value} (h : WentR M w vr) (b : But N w w') (hN : ∀ j ∈ N, j ∈ M ∨ w.heap.size ≤ j) : WentR M w' vr := fun v hv => by
  obtain ⟨T, h1, h2⟩ := h v hv
  exact ⟨T, h1, h2.later (b.mono hN)⟩
theorem KInv.keep {W0 : World} {p s : Nat} {k : KI} {w w' : World} (h : KInv W0 p s k w) (N : List Nat) (b : But N w w') (hN : ∀ j ∈ N, j ∈ k.blocks p) : KKeep W0 p k N w' := by
  have hNM : ∀ j ∈ N, j ∈ k.M ∨ w.heap.size ≤ j := fun j hj => Or.inl (h.inM j (hN j hj))
  exact ⟨fun j hj => ⟨(h.lt j hj).1, Nat.lt_of_lt_of_le (h.lt j hj).2 b.size⟩, But.belTo h.bel b (fun j hj => (h.lt j (h.inM j (hN j hj))).1), h.pool.later (b.mono hNM), h.wrow.but b hNM, fun hp => h.at_.but b hp, fun hd => h.svc.but b hd hNM, fun hd => ownB_but h.went b hd, fun hd => ownB_but h.speaks b hd, fun hd => ownB_but h.held b hd, fun hd => ownB_but h.frames b hd⟩
theorem KInv.later {W0 : World} {p s : Nat} {k : KI} {w w' : World} (h : KInv W0 p s k w) (b : Bel w w') : KInv W0 p s k w' := by
  have K := h.keep [] (But.of_bel b) (by simp)
  exact ⟨K.at_ (by simp), h.nd, h.inM, K.lt, K.bel, K.svc (by simp), K.pool, h.good, h.cok, h.onok, h.gen, K.went (by simp), h.wlen, K.wrow, K.speaks (by simp), K.held (by simp), h.slen, h.hlen, h.hrng, K.frames (by simp), h.flen, h.fsz, h.isz⟩
theorem KInv.up {W0 : World} {p s s' : Nat} {k : KI} {w : World} (h : KInv W0 p s k w) (hs : s ≤ s') : KInv W0 p s' k w :=
  ⟨h.at_, h.nd, h.inM, h.lt, h.bel, h.svc, h.pool, h.good, h.cok, h.onok, ⟨h.gen.1, by have := h.gen.2.1; omega, h.gen.2.2⟩, h.went, h.wlen, h.wrow, h.speaks, h.held, h.slen, h.hlen, h.hrng, h.frames, h.flen, h.fsz, h.isz⟩
theorem KInv.p_in {W0 : World} {p s : Nat} {k : KI} {w : World} (_h : KInv W0 p s k w) : p ∈ k.blocks p := by simp [KI.blocks]
theorem KInv.q_in {W0 : World} {p s : Nat} {k : KI} {w : World} (_h : KInv W0 p s k w) : k.q ∈ k.blocks p := by simp [KI.blocks, Svp.own]
/-- blocks of two parts are apart -/
theorem KInv.le {W0 : World} {p s : Nat} {k : KI} {w : World} (h : KInv W0 p s k w) (a : Nat) : [p].count a + (gl k.vw).count a + (gl k.vs).count a + (gl k.vh).count a + (gl k.vf).count a + (k.svp.own k.q).count a ≤ 1 := by
  have := cnt_le h.nd a
  rw [KI.count] at this
  exact this
theorem KInv.apart {W0 : World} {p s : Nat} {k : KI} {w : World} (h : KInv W0 p s k w) : (∀ j ∈ gl k.vw, j ≠ p) ∧ (∀ j ∈ gl k.vs, j ≠ p) ∧ (∀ j ∈ gl k.vh, j ≠ p) ∧ (∀ j ∈ gl k.vf, j ≠ p) ∧ ∀ j ∈ k.svp.own k.q, j ≠ p := by
  have hle := h.le p
  have h1 : 1 ≤ [p].count p := cnt_mem.1 (by simp)
  refine ⟨fun j hj e => ?_, fun j hj e => ?_, fun j hj e => ?_, fun j hj e => ?_, fun j hj e => ?_⟩
  all_goals
    subst e
    have := cnt_mem.1 hj
    omega
/-- the law's own box alone is written -/
theorem KInv.setW {W0 : World} {p s : Nat} {k : KI} {w w' : World} (h : KInv W0 p s k w) (b : But [p] w w') {c' : Cfg} {part' : Int} {img' : ByteArray} (hW' : WAt p (wl part' c' k.q k.on k.vb k.vw k.vs k.vh k.vf img') w') (hc' : c'.OK) (hi : img'.size ≤ 1099511627776) : KInv W0 p s { k with c := c', part := part', img := img' } w' := by
  have K := h.keep [p] b (fun j hj => by rw [List.mem_singleton.1 hj]; exact h.p_in)
  obtain ⟨a1, a2, a3, a4, a5⟩ := h.apart
  exact ⟨hW', h.nd, h.inM, K.lt, K.bel, K.svc (fun j hj e => a5 j e (List.mem_singleton.1 hj)), K.pool, h.good, hc', h.onok, h.gen, K.went (fun j hj e => a1 j hj (List.mem_singleton.1 e)), h.wlen, K.wrow, K.speaks (fun j hj e => a2 j hj (List.mem_singleton.1 e)), K.held (fun j hj e => a3 j hj (List.mem_singleton.1 e)), h.slen, h.hlen, h.hrng, K.frames (fun j hj e => a4 j hj (List.mem_singleton.1 e)), h.flen, h.fsz, hi⟩
/-- behind a change of the service's own box alone -/
theorem KInv.svcSame {W0 : World} {p s : Nat} {k : KI} {w w' : World} (h : KInv W0 p s k w) (b : But [k.q] w w') (hS : SvpAt k.M k.q k.svp w') : KInv W0 p (s + 1) k w' := by
  have K := h.keep [k.q] b (fun j hj => by rw [List.mem_singleton.1 hj]; exact h.q_in)
  have hle := h.le k.q
  have h1 : 1 ≤ (k.svp.own k.q).count k.q := cnt_mem.1 (by simp [Svp.own])
  have hn : ∀ L : List Nat, L.count k.q = 0 → ∀ j ∈ L, j ∉ [k.q] := fun L hL j hj e => by
    rw [List.mem_singleton.1 e] at hj
    have := cnt_mem.1 hj
    omega
  have hp : p ∉ [k.q] := fun e => by
    have h2 : 1 ≤ [p].count p := cnt_mem.1 (by simp)
    rw [← List.mem_singleton.1 e] at hle h1
    omega
  exact KInv.up (s := s) ⟨K.at_ hp, h.nd, h.inM, K.lt, K.bel, hS, K.pool, h.good, h.cok, h.onok, h.gen, K.went (hn _ (by omega)), h.wlen, K.wrow, K.speaks (hn _ (by omega)), K.held (hn _ (by omega)), h.slen, h.hlen, h.hrng, K.frames (hn _ (by omega)), h.flen, h.fsz, h.isz⟩ (by omega)
/-- between two steps: no dataplane waits for its rows; how many frames there are; each is sealed -/
def Seald (t : ByteArray) : Prop := ∃ b, openB t.data.toList = some b
/-- the last image: none, or one of this service's, of a generation that was -/
def ImgP (img : ByteArray) (on : Cfg) (g : Int) (B : List BK) : Prop := img.size = 0 ∨ ∃ (g0 : Nat) (B0 : List BK), 1 ≤ g0 ∧ (g0 : Int) ≤ g ∧ Good B0 ∧ img = txt (imageB 1 g0 on B0 (mkF on B0)) ∧ ((g0 : Int) = g → B0 = B)
theorem ImgP.grow {img : ByteArray} {on : Cfg} {g : Int} {B : List BK} (h : ImgP img on g B) (B' : List BK) : ImgP img on (g + 1) B' := by
  rcases h with h | ⟨g0, B0, h1, h2, h3, h4, h5⟩
  · exact Or.inl h
  · exact Or.inr ⟨g0, B0, h1, by omega, h3, h4, fun e => by omega⟩
def KI.Rdy (k : KI) (s : Nat) : Prop := k.ds = 0 ∧ k.dh = 0 ∧ k.fb ≤ s * 2000000 ∧ (∀ t ∈ k.fr, Seald t) ∧ ImgP k.img k.on k.g k.B
theorem KI.Rdy.up {k : KI} {s s' : Nat} (h : k.Rdy s) (hs : s ≤ s') : k.Rdy s' := ⟨h.1, h.2.1, Nat.le_trans h.2.2.1 (Nat.mul_le_mul_right _ hs), h.2.2.2⟩

end Go.Proofs.YtpapdkhjdelfcabGreat
