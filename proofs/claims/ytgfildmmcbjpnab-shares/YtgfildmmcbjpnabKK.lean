import Derived.Test.YtgfildmmcbjpnabKJ
namespace Go.Proofs.Ytgfildmmcbjpnab
open Go.RowKit

def pickF (c : Int) (n : Int) : Int := (if c < 0 then -(c + 1) else c) % n
theorem pickF_range (c n : Int) (hn : 0 < n) : 0 ≤ pickF c n ∧ pickF c n < n := ⟨Int.emod_nonneg _ (by omega), Int.emod_lt_of_pos _ hn⟩

set_option maxRecDepth 100000 in
set_option maxHeartbeats 400000 in
theorem pick_is (c n : Int) (w : World) (hc : I64 c) (hn : 0 < n) (hn2 : n ≤ 4611686018427387904) :
    Calls Try.prog 32 #[.int .i64 c, .int .i64 n] w fun e w' => e = .returned (.int .i64 (pickF c n)) ∧ w = w' := by
  obtain ⟨h1, h2⟩ := hc
  have hnz : (n == 0) = false := by rw [beq_eq_false_iff_ne]; omega
  by_cases hneg : c < 0
  · have HX : Hid (pickF c n = (-(c + 1)) % n) := by show pickF c n = _; rw [pickF, if_pos hneg]
    generalize pickF c n = X at *
    go_enter Try.func32, Try.ntmps32
    go_wp2
    go_ret
    exact ⟨ret_int (by rw [HX.out, ← Int.neg_tmod, Int.tmod_eq_emod_of_nonneg (by omega)]), rfl⟩
  · have HX : Hid (pickF c n = c % n) := by show pickF c n = _; rw [pickF, if_neg hneg]
    generalize pickF c n = X at *
    go_enter Try.func32, Try.ntmps32
    go_wp2
    go_ret
    exact ⟨ret_int HX.out.symm, rfl⟩

def keyF (k : Nat) : ByteArray := ⟨#[UInt8.ofNat (97 + k), UInt8.ofNat (k * 7)]⟩
theorem conv_two (w : World) (a b : UInt8) : (convert 66 9 (.slice (some ⟨w.heap.size, 0, none⟩) 2 2)).run Try.prog (w.alloc (.cells #[.int .u8 (a.toNat : Int), .int .u8 (b.toNat : Int)] 5)) = .ok (.string ⟨#[a, b]⟩) (w.alloc (.cells #[.int .u8 (a.toNat : Int), .int .u8 (b.toNat : Int)] 5)) := by
  have h := conv_head (base := w.heap.size) (l := [a, b]) (World.ownsRow_lit w #[.int .u8 (a.toNat : Int), .int .u8 (b.toNat : Int)] 2 (Nat.le_refl _) (by decide) rfl) (by simp)
  exact h

set_option maxRecDepth 100000 in
set_option maxHeartbeats 400000 in
theorem key_is (k : Nat) (w : World) (hk : k ≤ 12) :
    Calls Try.prog 64 #[.int .i64 k] w (RText w (keyF k)) := by
  have e1 : (((UInt8.ofNat (97 + k)).toNat : Nat) : Int) = 97 + (k : Int) := by rw [u8_of]; omega
  have e2 : (((UInt8.ofNat (k * 7)).toNat : Nat) : Int) = (k : Int) * 7 := by rw [u8_of]; omega
  have hcv := fun wx => conv_two wx (UInt8.ofNat (97 + k)) (UInt8.ofNat (k * 7))
  rw [e1, e2] at hcv
  obtain ⟨X, hX⟩ : ∃ X, X = keyF k := ⟨_, rfl⟩
  rw [← hX]
  rw [show (⟨#[UInt8.ofNat (97 + k), UInt8.ofNat (k * 7)]⟩ : ByteArray) = X from hX.symm] at hcv
  clear hX e1 e2
  go_enter Try.func64, Try.ntmps64
  go_wp2
  go_ret
  exact ⟨rfl, by (repeat (first | exact Bel.refl _ | assumption | refine Bel.step_alloc ?_ _ | refine Bel.step_drew ?_ | refine Bel.step_drewN ?_ _ | refine Bel.step_set ?_ (by simp <;> omega) _ | refine Bel.trans ?_ (by assumption)))⟩

def ownersF (c : Cfg) (B : List BK) (g : Int) : List ByteArray := (List.range 12).map fun k => (localF c B g (keyF k)).1
theorem keyF_size (k : Nat) : (keyF k).size = 2 := rfl
def RRow (w : World) (L : List ByteArray) (e : Ending) (w' : World) : Prop := ∃ v, e = .returned v ∧ Bel w w' ∧ OwnT w.heap.size w' v L

set_option maxRecDepth 100000 in
set_option maxHeartbeats 400000 in
theorem owners_is (M : List Nat) (q : Nat) (c : Cfg) (B : List BK) (g : Int) (w : World) (hS : SvcAt M q c B g w) (hE : (mkF c B).length ≤ 65536) (hc : c.OK) :
    Calls Try.prog 49 #[.pointer (some ⟨q, 0, none⟩)] w (RRow w (ownersF c B g)) := by
  obtain ⟨i0, hi, hz0, hz1, hz2⟩ := info_parts Try.infoStr
  have hlo := fun k wx (h : Bel w wx) => local_is M q c B g (keyF k) wx (hS.later h) hE hc (by rw [keyF_size]; omega)
  obtain ⟨of, hof⟩ : ∃ of : Nat → ByteArray, of = fun k => (localF c B g (keyF k)).1 := ⟨_, rfl⟩
  have hX : ownersF c B g = (List.range 12).map of := by rw [hof]; rfl
  rw [hX]
  have hlo2 : ∀ k wx, Bel w wx → ∃ er, Calls Try.prog 69 #[.pointer (some ⟨q, 0, none⟩), .string (keyF k)] wx (RStrErr wx (of k, er)) := fun k wx h => ⟨(localF c B g (keyF k)).2, by rw [hof]; exact hlo k wx h⟩
  clear hlo hof hX
  have HSV := Hid.mk hS
  clear hS
  go_enter Try.func49, Try.ntmps49
  go_wp2_with (first | (at_make; refine wpList_make_full _ rfl _ _ 36 rfl w.heap.size 9 i0 (.string ByteArray.empty) 1 Try.underlying36 hi hz0 hz1 _ _ _ _ 12 rfl rfl rfl rfl ?b2 ?b3 ?b4 ?_))
  case b2 => first | omega | (rw [hz2]; omega)
  case b3 => decide
  case b4 => exact Nat.le_refl _
  intro w1 hown1 hgrow1
  have hb1 : Bel w w1 := (Bel.refl _).grown hgrow1 (fun g hg => by cases hg)
  obtain ⟨gr, hgr⟩ : ∃ gr, gr = w.heap.size := ⟨_, rfl⟩
  have hmade : (madeCells #[Value.string ByteArray.empty] 12).toList = (List.replicate 12 ByteArray.empty).map Value.string := by rw [toList_madeCells_one, List.map_replicate]
  have hown : OwnT w.heap.size w1 (sl gr 12 12) (List.replicate 12 ByteArray.empty) := by
    rw [hgr]
    unfold OwnT sl
    rw [← hmade, List.length_replicate]
    exact hown1
  clear hgrow1 hown1 hmade
  rw [← hgr]
  have hgw : w.heap.size ≤ gr := by omega
  clear hgr
  go_wp2
  go_loopg [4] 12 (fun r n wr => Bel w wr ∧ ∃ k : Nat, r = 12 - k ∧ k ≤ 12 ∧ n = .int .i64 k ∧ ∃ L : List ByteArray, L.length = 12 ∧ OwnT w.heap.size wr (sl gr 12 12) L ∧ L.take k = (List.range k).map of)
  case atStart => exact ⟨hb1, 0, by omega, by omega, rfl, _, List.length_replicate, hown, rfl⟩
  case round =>
    obtain ⟨hb, k, hr, hk, rfl, L, hLl, hL, hLe⟩ := hrel
    have HO := Hid.mk hL
    have HLe := Hid.mk hLe
    have HLl := Hid.mk hLl
    clear hL hLe hLl hown hb1
    by_cases hlt : k < 12
    · have hkey := fun wx => key_is k wx (by omega)
      go_wp2_with fail
      refine (hkey _).mono ?_
      rintro e w2 ⟨rfl, hb2⟩
      obtain ⟨er, hcl⟩ := hlo2 k w2 (hb.trans hb2)
      clear hkey
      generalize keyF k = kk at *
      generalize hofk : of k = ofk at *
      go_wp2_with fail
      refine hcl.mono ?_
      rintro e w3 ⟨rfl, hb3⟩
      have hb23 := hb2.trans hb3
      have hO3 : OwnT w.heap.size w3 (sl gr 12 12) L := own_later HO.out hb23
      have hbw := hb.trans hb23
      have hO3' : w3.ownsRow w.heap.size 9 1 (.slice (some ⟨gr, 0, none⟩) 12 12) 12 (L.map Value.string) := by have := hO3; unfold OwnT sl at this; rw [HLl.out] at this; exact this
      have k1 : ∃ y, w3.cell? ⟨gr, k, none⟩ = some y := ⟨_, by rw [World.ownsRow.cellAt hO3' k (by omega), List.getElem?_map, List.getElem?_eq_getElem (by have := HLl.out; omega)]; rfl⟩
      have k2 := World.ownsRow.frozenAt hO3' k
      obtain ⟨y, k1⟩ := k1
      have H9 : Hid (OwnT w.heap.size (w3.setCell ⟨gr, k, none⟩ (.string ofk)) (sl gr 12 12) (L.set k ofk)) := by
        have := (World.ownsRow.stored hO3' k (.string ofk)).1
        unfold Hid OwnT sl
        rw [List.length_set, HLl.out, List.map_set]
        exact this
      clear hO3 hO3' HO hcl
      go_wp2
      go_roundg (12 - (k + 1))
      case measure => omega
      case rel =>
        refine ⟨hbw.step_set hgw _, k + 1, rfl, by omega, by go_num, L.set k ofk, by rw [List.length_set]; exact HLl.out, H9.out, ?_⟩
        rw [List.take_succ_eq_append_getElem (by rw [List.length_set]; have := HLl.out; omega), List.take_set_of_le (Nat.le_refl k), HLe.out, List.getElem_set_self, List.range_succ, List.map_append, ← hofk]
        rfl
    · obtain rfl : k = 12 := by omega
      go_wp2
      go_ret
      refine ⟨_, rfl, hb, ?_⟩
      have h12 : L = (List.range 12).map of := by rw [← HLe.out, List.take_of_length_le (by have := HLl.out; omega)]
      rw [← h12]
      exact HO.out

def weightF (B : List BK) (id : ByteArray) : Int := match B[atName id B]? with
  | some b => b.2
  | none => -1

set_option maxRecDepth 100000 in
set_option maxHeartbeats 400000 in
theorem weight_is (B : List BK) (v : Value) (id : ByteArray) (w : World) (hP : PoolAt w v B) (hB : B.length ≤ 9) :
    Calls Try.prog 51 #[v, .string id] w (RSum w (weightF B id)) := by
  obtain ⟨ao, cap, rfl, hc⟩ := hP.open
  go_enter Try.func51, Try.ntmps51
  go_wp2
  go_loopg [5] B.length (fun r n wr => w = wr ∧ ∃ k : Nat, r = B.length - k ∧ k ≤ B.length ∧ n = .int .i64 k ∧ ∀ j (h : j < B.length), j < k → B[j].1 ≠ id)
  case atStart => exact ⟨rfl, 0, by omega, by omega, rfl, fun j _ h => by omega⟩
  case round =>
    obtain ⟨rfl, k, hr, hk, rfl, hall⟩ := hrel
    have HA : Hid (∀ j (h : j < B.length), j < k → B[j].1 ≠ id) := hall
    clear hall
    by_cases hlt : k < B.length
    · obtain ⟨g, rfl, c0, c1⟩ := hc k hlt
      clear hc
      cases heq : B[k].1.toList == id.toList
      · have hstep : Hid (∀ j (h : j < B.length), j < k + 1 → B[j].1 ≠ id) := fun j h hj => by
          by_cases he : j = k
          · subst he; intro e; rw [str_eq.2 e] at heq; cases heq
          · exact HA.out j h (by omega)
        generalize B[k].1 = idk at *
        generalize B[k].2 = wk at *
        go_wp2
        go_roundg (B.length - (k + 1))
        case measure => omega
        case rel => exact ⟨rfl, k + 1, rfl, by omega, by go_num, hstep.out⟩
      · have hfin : Hid (weightF B id = B[k].2) := by
          have := atName_first hlt (str_eq.1 heq) HA.out
          show weightF B id = _
          rw [weightF, this, List.getElem?_eq_getElem hlt]
        generalize B[k].1 = idk at *
        generalize B[k].2 = wk at *
        go_wp2
        go_ret
        exact ⟨ret_int hfin.out.symm, Bel.refl _⟩
    · have hfin : Hid (weightF B id = -1) := by
        show weightF B id = -1
        rw [weightF]
        cases hx : B[atName id B]? with
        | none => rfl
        | some b =>
          obtain ⟨hl, _⟩ := List.getElem?_eq_some_iff.1 hx
          exact absurd (atName_is hl) (HA.out _ hl (by omega))
      clear hc
      go_wp2
      go_ret
      exact ⟨ret_int hfin.out.symm, Bel.refl _⟩

end Go.Proofs.Ytgfildmmcbjpnab

namespace Go.Proofs.Ytgfildmmcbjpnab
open Go.RowKit

theorem lawPool_lenT (id : ByteArray) (n : Int) (B : List BK) : (lawPool id n true B).length ≤ B.length := by
  induction B with
  | nil => simp [lawPool]
  | cons b B ih =>
    simp only [lawPool]
    rw [if_neg (by simp), ite_self]
    simp only [List.nil_append, List.length_append, List.length_cons]
    split
    · simp; omega
    · simp; omega
theorem lawPool_len (id : ByteArray) (n : Int) (put : Bool) (B : List BK) : (lawPool id n put B).length ≤ B.length + 1 := by
  cases put
  · induction B with
    | nil => simp [lawPool]
    | cons b B ih =>
      simp only [lawPool]
      have hT := lawPool_lenT id n B
      cases less b.1 id
      · simp only [and_self, if_true, List.length_append, List.length_cons, List.length_nil]
        split <;> simp <;> omega
      · simp only [Bool.true_eq_false, and_false, if_false, List.nil_append, List.length_append, List.length_cons]
        split <;> simp <;> omega
  · have := lawPool_lenT id n B; omega

set_option maxRecDepth 100000 in
set_option maxHeartbeats 800000 in
theorem pool_is (B : List BK) (v : Value) (id : ByteArray) (n : Int) (w : World) (hP : PoolAt w v B) (hB : B.length ≤ 8) :
    Calls Try.prog 54 #[v, .string id, .int .i64 n] w (RPool w (lawPool id n (decide (n < 0)) B)) := by
  obtain ⟨i0, hi, hz0, hz1, hz2⟩ := info_parts Try.infoBK
  obtain ⟨ao, cap, rfl, hc⟩ := hP.open
  obtain ⟨X, hX⟩ : ∃ X, X = lawPool id n (decide (n < 0)) B := ⟨_, rfl⟩
  rw [← hX]
  have hXl : X.length ≤ 9 := by have := lawPool_len id n (decide (n < 0)) B; rw [← hX] at this; omega
  go_enter Try.func54, Try.ntmps54
  go_wp2
  go_loopg [7, 8, 9] (B.length + 1) (fun r vL vp ni wr => Bel w wr ∧ ∃ (k : Nat) (put : Bool) (L : List BK), r = B.length + 1 - k ∧ k ≤ B.length + 1 ∧ ni = .int .i64 k ∧ vp = .bool put ∧ OwnB w.heap.size wr vL L ∧ ((k ≤ B.length ∧ L ++ lawPool id n put (B.drop k) = X) ∨ (k = B.length + 1 ∧ L = X)))
  case atStart => exact ⟨Bel.refl _, 0, _, [], by omega, by omega, rfl, rfl, World.ownsRow_nil _ _ _ _, Or.inl ⟨by omega, by simpa using hX.symm⟩⟩
  case round =>
    obtain ⟨hb, k, put, L, hr, hk, rfl, rfl, hL, hor⟩ := hrel
    have HO := Hid.mk hL
    have hwr := hb.size
    clear hL hX
    rcases hor with ⟨hkl, heq⟩ | ⟨hkl, heq⟩
    · have hLl : L.length ≤ 9 := by
        have := congrArg List.length heq
        rw [List.length_append] at this
        omega
      have hle : decide ((k : Int) ≤ (B.length : Int)) = true := decide_eq_true (by omega)
      by_cases hlt : k < B.length
      · obtain ⟨g, rfl, c0, c1⟩ := hc k hlt
        have c0' := hb.cell c0
        have c1' := hb.cell c1
        rw [List.drop_eq_getElem_cons hlt] at heq
        simp only [lawPool] at heq
        have HEq := Hid.mk heq
        have hkne : ((k : Int) == (B.length : Int)) = false := by rw [beq_eq_false_iff_ne]; omega
        have hkl2 : decide ((k : Int) < (B.length : Int)) = true := decide_eq_true (by omega)
        have HLs : Hid (less B[k].1 id = Op.bytesLess B[k].1.toList id.toList) := rfl
        have HEI : Hid (((B[k].1.toList == id.toList) = true) ↔ B[k].1 = id) := str_eq
        clear hc heq
        generalize B[k] = bk at *
        obtain ⟨idk, wk⟩ := bk
        simp only at c0 c1 c0' c1' HEq HLs HEI
        rw [HLs.out] at HEq
        clear HLs
        generalize hless : Op.bytesLess idk.toList id.toList = ls at *
        generalize heqq : (idk.toList == id.toList) = eqb at *
        have HEB : Hid ((if idk ≠ id then [(idk, wk)] else []) = (if eqb then [] else [(idk, wk)])) := by
          show _ = _
          cases eqb
          · have : idk ≠ id := fun e => by have := HEI.out.2 e; cases this
            simp [this]
          · have : idk = id := HEI.out.1 rfl
            simp [this]
        rw [HEB.out] at HEq
        clear HEB HEI
        have hLl2 : L.length ≤ 7 ∨ L.length ≤ 9 := Or.inr hLl
        clear hLl2
        cases put
        · cases ls
          · cases eqb
            · go_wp2_with (first | (at_builtin; refine wpList_append_own _ rfl _ _ 47 rfl w.heap.size 64 i0 (.agg #[.string ByteArray.empty, .int .i64 0]) 2 24 Try.underlying47 hi hz0 hz1 hz2 rfl (by decide) _ (L).length (pcells (L)) rfl ?p1b ⟨wr.heap.size, 0, none⟩ 1 1 [.string id, .int .i64 n] rfl rfl ?db1 ?db2 ?db3 ?db4 ?db5 ?_))
              case p1b => exact World.ownsRow.alloc HO.out _
              try (case db1 => exact two_new _ _ _ _ _ (by simp))
              case db2 => first | exact ⟨rfl, rfl⟩ | exact two_one rfl rfl | (intro u hu; simp at hu; rcases hu with rfl | rfl <;> rfl)
              case db3 => (try simp only [List.length_append, List.length_cons, List.length_nil]); unfold maxLen; omega
              case db4 => (try simp only [List.length_append, List.length_cons, List.length_nil]); omega
              case db5 => first | omega | (simp; omega)
              intro v2 w2 hown2 hgrow2 _
              have hb2 : Bel w w2 := (hb.step_alloc _).grown hgrow2 (fun g hg => (World.ownsRow.lt HO.out g hg).1)
              have H2 := Hid.mk (OwnB.snoc (b := (id, n)) hown2 (by simp))
              have hs2 := hb2.size
              clear hown2 hgrow2
              have x0 := hb2.cell c0
              have x1 := hb2.cell c1
              go_wp2_with (first | (at_builtin; refine wpList_append_own _ rfl _ _ 47 rfl w.heap.size 64 i0 (.agg #[.string ByteArray.empty, .int .i64 0]) 2 24 Try.underlying47 hi hz0 hz1 hz2 rfl (by decide) _ (L ++ [(id, n)]).length (pcells (L ++ [(id, n)])) rfl ?p1c ⟨w2.heap.size, 0, none⟩ 1 1 [.string idk, .int .i64 wk] rfl rfl ?dc1 ?dc2 ?dc3 ?dc4 ?dc5 ?_))
              case p1c => exact World.ownsRow.alloc H2.out _
              try (case dc1 => exact two_new _ _ _ _ _ (by simp))
              case dc2 => first | exact ⟨rfl, rfl⟩ | exact two_one rfl rfl | (intro u hu; simp at hu; rcases hu with rfl | rfl <;> rfl)
              case dc3 => (try simp only [List.length_append, List.length_cons, List.length_nil]); unfold maxLen; omega
              case dc4 => (try simp only [List.length_append, List.length_cons, List.length_nil]); omega
              case dc5 => first | omega | (simp; omega)
              intro v3 w3 hown3 hgrow3 _
              have hb3 : Bel w w3 := (hb2.step_alloc _).grown hgrow3 (fun g hg => (World.ownsRow.lt H2.out g hg).1)
              have H3 := Hid.mk (OwnB.snoc (b := (idk, wk)) hown3 (by simp))
              have hs3 := hb3.size
              clear hown3 hgrow3
              go_wp2
              go_roundg (B.length + 1 - (k + 1))
              case measure => omega
              case rel => exact ⟨hb3, k + 1, true, _, rfl, by omega, by go_num, rfl, H3.out, Or.inl ⟨by omega, by have := HEq.out; simpa using this⟩⟩
            · go_wp2_with (first | (at_builtin; refine wpList_append_own _ rfl _ _ 47 rfl w.heap.size 64 i0 (.agg #[.string ByteArray.empty, .int .i64 0]) 2 24 Try.underlying47 hi hz0 hz1 hz2 rfl (by decide) _ (L).length (pcells (L)) rfl ?p1d ⟨wr.heap.size, 0, none⟩ 1 1 [.string id, .int .i64 n] rfl rfl ?dd1 ?dd2 ?dd3 ?dd4 ?dd5 ?_))
              case p1d => exact World.ownsRow.alloc HO.out _
              try (case dd1 => exact two_new _ _ _ _ _ (by simp))
              case dd2 => first | exact ⟨rfl, rfl⟩ | exact two_one rfl rfl | (intro u hu; simp at hu; rcases hu with rfl | rfl <;> rfl)
              case dd3 => (try simp only [List.length_append, List.length_cons, List.length_nil]); unfold maxLen; omega
              case dd4 => (try simp only [List.length_append, List.length_cons, List.length_nil]); omega
              case dd5 => first | omega | (simp; omega)
              intro v2 w2 hown2 hgrow2 _
              have hb2 : Bel w w2 := (hb.step_alloc _).grown hgrow2 (fun g hg => (World.ownsRow.lt HO.out g hg).1)
              have H2 := Hid.mk (OwnB.snoc (b := (id, n)) hown2 (by simp))
              have hs2 := hb2.size
              clear hown2 hgrow2
              have x0 := hb2.cell c0
              have x1 := hb2.cell c1
              go_wp2
              go_roundg (B.length + 1 - (k + 1))
              case measure => omega
              case rel => exact ⟨hb2, k + 1, true, _, rfl, by omega, by go_num, rfl, H2.out, Or.inl ⟨by omega, by have := HEq.out; simpa using this⟩⟩
          · cases eqb
            · go_wp2_with (first | (at_builtin; refine wpList_append_own _ rfl _ _ 47 rfl w.heap.size 64 i0 (.agg #[.string ByteArray.empty, .int .i64 0]) 2 24 Try.underlying47 hi hz0 hz1 hz2 rfl (by decide) _ (L).length (pcells (L)) rfl ?p1e ⟨wr.heap.size, 0, none⟩ 1 1 [.string idk, .int .i64 wk] rfl rfl ?de1 ?de2 ?de3 ?de4 ?de5 ?_))
              case p1e => exact World.ownsRow.alloc HO.out _
              try (case de1 => exact two_new _ _ _ _ _ (by simp))
              case de2 => first | exact ⟨rfl, rfl⟩ | exact two_one rfl rfl | (intro u hu; simp at hu; rcases hu with rfl | rfl <;> rfl)
              case de3 => (try simp only [List.length_append, List.length_cons, List.length_nil]); unfold maxLen; omega
              case de4 => (try simp only [List.length_append, List.length_cons, List.length_nil]); omega
              case de5 => first | omega | (simp; omega)
              intro v2 w2 hown2 hgrow2 _
              have hb2 : Bel w w2 := (hb.step_alloc _).grown hgrow2 (fun g hg => (World.ownsRow.lt HO.out g hg).1)
              have H2 := Hid.mk (OwnB.snoc (b := (idk, wk)) hown2 (by simp))
              have hs2 := hb2.size
              clear hown2 hgrow2
              go_wp2
              go_roundg (B.length + 1 - (k + 1))
              case measure => omega
              case rel => exact ⟨hb2, k + 1, false, _, rfl, by omega, by go_num, rfl, H2.out, Or.inl ⟨by omega, by have := HEq.out; simpa using this⟩⟩
            · go_wp2
              go_roundg (B.length + 1 - (k + 1))
              case measure => omega
              case rel => exact ⟨hb, k + 1, false, _, rfl, by omega, by go_num, rfl, HO.out, Or.inl ⟨by omega, by have := HEq.out; simpa using this⟩⟩
        · cases eqb
          · go_wp2_with (first | (at_builtin; refine wpList_append_own _ rfl _ _ 47 rfl w.heap.size 64 i0 (.agg #[.string ByteArray.empty, .int .i64 0]) 2 24 Try.underlying47 hi hz0 hz1 hz2 rfl (by decide) _ (L).length (pcells (L)) rfl ?p1f ⟨wr.heap.size, 0, none⟩ 1 1 [.string idk, .int .i64 wk] rfl rfl ?df1 ?df2 ?df3 ?df4 ?df5 ?_))
            case p1f => exact World.ownsRow.alloc HO.out _
            try (case df1 => exact two_new _ _ _ _ _ (by simp))
            case df2 => first | exact ⟨rfl, rfl⟩ | exact two_one rfl rfl | (intro u hu; simp at hu; rcases hu with rfl | rfl <;> rfl)
            case df3 => (try simp only [List.length_append, List.length_cons, List.length_nil]); unfold maxLen; omega
            case df4 => (try simp only [List.length_append, List.length_cons, List.length_nil]); omega
            case df5 => first | omega | (simp; omega)
            intro v2 w2 hown2 hgrow2 _
            have hb2 : Bel w w2 := (hb.step_alloc _).grown hgrow2 (fun g hg => (World.ownsRow.lt HO.out g hg).1)
            have H2 := Hid.mk (OwnB.snoc (b := (idk, wk)) hown2 (by simp))
            have hs2 := hb2.size
            clear hown2 hgrow2
            go_wp2
            go_roundg (B.length + 1 - (k + 1))
            case measure => omega
            case rel => exact ⟨hb2, k + 1, true, _, rfl, by omega, by go_num, rfl, H2.out, Or.inl ⟨by omega, by have := HEq.out; simpa using this⟩⟩
          · go_wp2
            go_roundg (B.length + 1 - (k + 1))
            case measure => omega
            case rel => exact ⟨hb, k + 1, true, _, rfl, by omega, by go_num, rfl, HO.out, Or.inl ⟨by omega, by have := HEq.out; simpa using this⟩⟩
      · obtain rfl : k = B.length := by omega
        have hkl2 : decide ((B.length : Int) < (B.length : Int)) = false := decide_eq_false (by omega)
        rw [List.drop_length] at heq
        have HEq := Hid.mk heq
        clear hc heq
        cases put
        · go_wp2_with (first | (at_builtin; refine wpList_append_own _ rfl _ _ 47 rfl w.heap.size 64 i0 (.agg #[.string ByteArray.empty, .int .i64 0]) 2 24 Try.underlying47 hi hz0 hz1 hz2 rfl (by decide) _ (L).length (pcells (L)) rfl ?p1g ⟨wr.heap.size, 0, none⟩ 1 1 [.string id, .int .i64 n] rfl rfl ?dg1 ?dg2 ?dg3 ?dg4 ?dg5 ?_))
          case p1g => exact World.ownsRow.alloc HO.out _
          try (case dg1 => exact two_new _ _ _ _ _ (by simp))
          case dg2 => first | exact ⟨rfl, rfl⟩ | exact two_one rfl rfl | (intro u hu; simp at hu; rcases hu with rfl | rfl <;> rfl)
          case dg3 => (try simp only [List.length_append, List.length_cons, List.length_nil]); unfold maxLen; omega
          case dg4 => (try simp only [List.length_append, List.length_cons, List.length_nil]); omega
          case dg5 => first | omega | (simp; omega)
          intro v2 w2 hown2 hgrow2 _
          have hb2 : Bel w w2 := (hb.step_alloc _).grown hgrow2 (fun g hg => (World.ownsRow.lt HO.out g hg).1)
          have H2 := Hid.mk (OwnB.snoc (b := (id, n)) hown2 (by simp))
          have hs2 := hb2.size
          clear hown2 hgrow2
          go_wp2
          go_roundg 0
          case measure => omega
          case rel => exact ⟨hb2, B.length + 1, true, _, by omega, by omega, by go_num, rfl, H2.out, Or.inr ⟨rfl, by have := HEq.out; simpa [lawPool] using this⟩⟩
        · go_wp2
          go_roundg 0
          case measure => omega
          case rel => exact ⟨hb, B.length + 1, true, _, by omega, by omega, by go_num, rfl, HO.out, Or.inr ⟨rfl, by have := HEq.out; simpa [lawPool] using this⟩⟩
    · have hle : decide ((k : Int) ≤ (B.length : Int)) = false := decide_eq_false (by omega)
      have HEq := Hid.mk heq
      clear hc heq
      go_wp2
      go_ret
      exact ⟨_, rfl, hb, by rw [← HEq.out]; exact HO.out⟩

end Go.Proofs.Ytgfildmmcbjpnab

namespace Go.Proofs.Ytgfildmmcbjpnab
open Go.RowKit

/-- the law's world, as cells -/
def wl (part : Int) (c : Cfg) (q : Nat) (on : Cfg) (vb vw vs vh vf : Value) (img : ByteArray) : List Value :=
  [.int .i64 part, .int .i64 c.alg, .int .i64 c.slots, .int .i64 c.points, .int .i64 c.probes, .string c.key, .int .i64 c.formats, .pointer (some ⟨q, 0, none⟩), .int .i64 on.alg, .int .i64 on.slots, .int .i64 on.points, .int .i64 on.probes, .string on.key, .int .i64 on.formats, vb, vw, vs, vh, vf, .string img]
def WAt (p : Nat) (L : List Value) (w : World) : Prop := (∀ o u, L[o]? = some u → w.cell? ⟨p, o, none⟩ = some u) ∧ ∀ o, o < L.length → w.frozen? ⟨p, o, none⟩ = false
theorem WAt.but {M : List Nat} {p : Nat} {L : List Value} {w w' : World} (h : WAt p L w) (k : But M w w') (hp : p ∉ M) : WAt p L w' :=
  ⟨fun o u hu => k.cell (h.1 o u hu) hp, fun o ho => k.frozen (h.1 o L[o] (by simp [ho])) hp (h.2 o ho)⟩
theorem WAt.later {p : Nat} {L : List Value} {w w' : World} (h : WAt p L w) (k : Bel w w') : WAt p L w' := h.but (M := []) (But.of_bel k) (by simp)
theorem WAt.set {p : Nat} {L : List Value} {w : World} (h : WAt p L w) (o : Nat) (u : Value) : WAt p (L.set o u) (w.setCell ⟨p, o, none⟩ u) := by
  refine ⟨fun j x hx => ?_, fun j hj => by rw [frozen_set]; exact h.2 j (by simpa using hj)⟩
  by_cases hjo : o = j
  · subst hjo
    have hl := (List.getElem?_eq_some_iff.1 hx).1
    rw [List.length_set] at hl
    rw [List.getElem?_set_self hl] at hx
    cases hx
    exact set_same (h.1 o L[o] (by simp [hl]))
  · rw [List.getElem?_set_ne hjo] at hx
    rw [set_other (Or.inr hjo)]
    exact h.1 j x hx
theorem WAt.other {p : Nat} {L : List Value} {w : World} (h : WAt p L w) {a : Addr} (ha : a.block ≠ p) (u : Value) : WAt p L (w.setCell a u) :=
  h.but (M := [a.block]) ((But.refl _ _).set (by simp) u) (by simpa using fun e => ha e.symm)
theorem WAt.lt {p : Nat} {L : List Value} {w : World} (h : WAt p L w) (hL : 0 < L.length) : p < w.heap.size := World.block_lt_of_cell? w _ (h.1 0 L[0] (by simp [hL]))

set_option maxRecDepth 100000 in
set_option maxHeartbeats 400000 in
theorem fails_is (p : Nat) (L : List Value) (x : Int) (w : World) (h : WAt p L w) (hL : 0 < L.length) :
    Calls Try.prog 31 #[.pointer (some ⟨p, 0, none⟩), .int .i64 x] w fun e w' => e = .returned (.bool false) ∧ w' = w.setCell ⟨p, 0, none⟩ (.int .i64 x) := by
  have h0 := h.1 0 L[0] (by simp [hL])
  have f0 := h.2 0 hL
  go_enter Try.func31, Try.ntmps31
  go_wp2
  go_ret
  exact ⟨rfl, rfl⟩

/-- a row of []string of one's own, in the block of a list, or nil -/
def WentAt (W0 : World) (M : List Nat) (p q : Nat) (s : Nat) (vw : Value) (w : World) : Prop := ∃ n xs, w.ownsRow W0.heap.size 36 1 vw n xs ∧ n ≤ s + 1 ∧ ∀ g, vw.ownBlock = some g → g ∈ M ∧ g ≠ p ∧ g ≠ q
/-- the dataplanes: none, or one -/
def PlanesAt (W0 : World) (M : List Nat) (p q : Nat) (vw vs vh : Value) (w : World) : Prop :=
  (vs = .slice none 0 0 ∧ vh = .slice none 0 0) ∨ ∃ gs gh cs ch f, vs = sl gs 1 cs ∧ vh = sl gh 1 ch ∧ OwnI W0.heap.size w (sl gs 1 cs) [f] ∧ OwnI W0.heap.size w (sl gh 1 ch) [0] ∧ gs ∈ M ∧ gh ∈ M ∧ gs ≠ p ∧ gs ≠ q ∧ gh ≠ p ∧ gh ≠ q ∧ gs ≠ gh ∧ vw.ownBlock ≠ some gs ∧ vw.ownBlock ≠ some gh
/-- the world of a law between two steps -/
structure KI where
  M : List Nat
  q : Nat
  c : Cfg
  on : Cfg
  B : List BK
  g : Int
  vb : Value
  vw : Value
  vs : Value
  vh : Value
  part : Int
def KInv (W0 : World) (p s : Nat) (k : KI) (w : World) : Prop :=
  WAt p (wl k.part k.c k.q k.on k.vb k.vw k.vs k.vh (.slice none 0 0) ByteArray.empty) w ∧ (p ∈ k.M ∧ k.q ∈ k.M ∧ p ≠ k.q) ∧ (∀ j ∈ k.M, W0.heap.size ≤ j ∧ j < w.heap.size) ∧ Bel W0 w ∧ SvcAt k.M k.q k.on k.B k.g w ∧ PoolAt (mask k.M w) k.vb k.B ∧ Good k.B ∧ k.c.OK ∧ k.on.OK ∧ (0 ≤ k.g ∧ k.g ≤ s ∧ (k.g = 0 → k.B = [])) ∧ WentAt W0 k.M p k.q s k.vw w ∧ PlanesAt W0 k.M p k.q k.vw k.vs k.vh w
theorem KInv.later {W0 : World} {p s : Nat} {k : KI} {w w' : World} (h : KInv W0 p s k w) (b : Bel w w') : KInv W0 p s k w' := by
  obtain ⟨hW, hp, hM, hb, hS, hP, hG, hc, hon, hg, ⟨n, xs, ho, hn, hgw⟩, hpl⟩ := h
  have bm : Bel (mask k.M w) (mask k.M w') := But.of_bel b
  refine ⟨hW.later b, hp, fun j hj => ⟨(hM j hj).1, Nat.lt_of_lt_of_le (hM j hj).2 b.size⟩, hb.trans b, hS.later b, hP.later bm, hG, hc, hon, hg, ⟨n, xs, own_later ho b, hn, hgw⟩, ?_⟩
  rcases hpl with h1 | ⟨gs, gh, cs, ch, f, h1, h2, h3, h4, hr⟩
  · exact Or.inl h1
  · exact Or.inr ⟨gs, gh, cs, ch, f, h1, h2, OwnI.later h3 b, OwnI.later h4 b, hr⟩
/-- behind a change of the service alone -/
theorem KInv.svc {W0 : World} {p s : Nat} {k : KI} {w w' : World} (h : KInv W0 p s k w) (b : But [k.q] w w') :
    WAt p (wl k.part k.c k.q k.on k.vb k.vw k.vs k.vh (.slice none 0 0) ByteArray.empty) w' ∧ (∀ j ∈ k.M, W0.heap.size ≤ j ∧ j < w'.heap.size) ∧ Bel W0 w' ∧ PoolAt (mask k.M w') k.vb k.B ∧ WentAt W0 k.M p k.q s k.vw w' ∧ PlanesAt W0 k.M p k.q k.vw k.vs k.vh w' := by
  obtain ⟨hW, ⟨hp1, hp2, hp3⟩, hM, hb, hS, hP, hG, hc, hon, hg, ⟨n, xs, ho, hn, hgw⟩, hpl⟩ := h
  have bm : But k.M w w' := b.mono (fun j hj => Or.inl (by simp at hj; subst hj; exact hp2))
  have hkeep : ∀ {e : TypeId} {sz : Nat} {v : Value} {n : Nat} {xs : List Value}, w.ownsRow W0.heap.size e sz v n xs → v.ownBlock ≠ some k.q → w'.ownsRow W0.heap.size e sz v n xs := by
    intro e sz v n xs hrow hne
    refine ⟨hrow.1, ?_⟩
    rcases hrow.2 with h1 | ⟨g, cap, cur, hv, hg, hh, r⟩
    · exact Or.inl h1
    · refine Or.inr ⟨g, cap, cur, hv, hg, ?_, r⟩
      rw [b.block g (Array.getElem?_eq_some_iff.1 hh).1 (by
        intro hm
        simp at hm
        exact hne (by rw [hv, hm]; rfl))]
      exact hh
  refine ⟨hW.but b (by simpa using hp3), fun j hj => ⟨(hM j hj).1, Nat.lt_of_lt_of_le (hM j hj).2 b.size⟩, But.belTo hb b (by intro j hj; simp at hj; subst hj; exact (hM _ hp2).1), hP.later bm, ⟨n, xs, hkeep ho (fun e => (hgw _ e).2.2 rfl), hn, hgw⟩, ?_⟩
  rcases hpl with h1 | ⟨gs, gh, cs, ch, f, h1, h2, h3, h4, m1, m2, n1, n2, n3, n4, hr⟩
  · exact Or.inl h1
  · refine Or.inr ⟨gs, gh, cs, ch, f, h1, h2, hkeep h3 (fun e => n2 (by simpa [sl, Value.ownBlock] using e)), hkeep h4 (fun e => n4 (by simpa [sl, Value.ownBlock] using e)), m1, m2, n1, n2, n3, n4, hr⟩

end Go.Proofs.Ytgfildmmcbjpnab
