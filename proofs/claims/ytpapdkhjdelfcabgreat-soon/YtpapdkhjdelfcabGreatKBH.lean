import Derived.Test.YtpapdkhjdelfcabGreatKBG
namespace Go.Proofs.YtpapdkhjdelfcabGreat
open Go.RowKit

def tickB (g fm cg cf : Nat) (T : List TP) : List UInt8 := packB (questB g fm cg cf (misF T)) ++ sumB (crcB (packB (questB g fm cg cf (misF T))))
theorem misK_le : ∀ (T : List TP) (k : Nat), misK T k ≤ k + T.length
  | [], k => by simp [misK]
  | x :: T, k => by
    rw [misK]
    have := misK_le T (k + 1)
    split <;> simp <;> omega
set_option maxRecDepth 100000 in
set_option maxHeartbeats 400000 in
theorem tick_no (q : Nat) (d : Int) (w : World) (hd : Calls Tryz.prog 59 #[.pointer (some ⟨q, 0, none⟩), .int .i64 d] w (RQ w (.pointer none))) :
    Calls Tryz.prog 29 #[.pointer (some ⟨q, 0, none⟩), .int .i64 d] w (RTxE w ([], 4)) := by
  have H := Hid.mk hd
  clear hd
  go_enter Tryz.func29, Tryz.ntmps29
  go_wp2_with fail
  refine H.out.mono ?_
  rintro e w1 ⟨rfl, hb1⟩
  have HB1 := Hid.mk hb1
  clear hb1 H
  go_wp2
  go_ret2
  exact ⟨rfl, HB1.out⟩
set_option maxRecDepth 100000 in
set_option maxHeartbeats 400000 in
theorem tick_is (q p : Nat) (d : Int) (fm g : Nat) (c : Cfg) (vP vE : Value) (cg cf cp : Nat) (vT : Value) (nf : Bool) (T : List TP) (w : World) (hd : Calls Tryz.prog 59 #[.pointer (some ⟨q, 0, none⟩), .int .i64 d] w (RQ w (.pointer (some ⟨p, 0, none⟩)))) (h : BoxC p 146 (plC fm g c vP vE cg cf cp vT nf) w) (hT : ThAt w vT T) (hl : T.length ≤ 65536) (b1 : g ≤ 4611686018427387904) (b2 : fm ≤ 4611686018427387904) (b3 : cg ≤ 4611686018427387904) (b4 : cf ≤ 4611686018427387904) :
    Calls Tryz.prog 29 #[.pointer (some ⟨q, 0, none⟩), .int .i64 d] w (RTxE w (tickB g fm cg cf T, 0)) := by
  have H := Hid.mk hd
  have hq := fun wx (hx : Bel w wx) => question_is p fm g c vP vE cg cf cp vT nf T wx (h.bel hx) (hT.later hx) hl
  have hm : misF T ≤ 4611686018427387904 := by have := misK_le T 0; unfold misF; omega
  have hwq := fun wx => writeq_is g fm cg cf (misF T) wx b1 b2 b3 b4 hm
  unfold tickB
  unfold questA at hq
  generalize packB (questB g fm cg cf (misF T)) ++ sumB (crcB (packB (questB g fm cg cf (misF T)))) = TB at *
  generalize misF T = mf at *
  clear hd h hT
  go_enter Tryz.func29, Tryz.ntmps29
  go_wp2_with fail
  refine H.out.mono ?_
  rintro e w1 ⟨rfl, hb1⟩
  have H2 := Hid.mk (hq w1 hb1)
  have HB1 := Hid.mk hb1
  clear hb1 H hq
  go_wp2_with fail
  refine H2.out.mono ?_
  rintro e w2 ⟨rfl, hb2⟩
  have HB2 := Hid.mk ((HB1.out.trans hb2).step_alloc (.cells #[.int .i64 (g : Int), .int .i64 (fm : Int), .int .i64 (cg : Int), .int .i64 (cf : Int), .int .i64 (mf : Int)] 91))
  clear hb2 H2 HB1
  go_wp2_with fail
  refine (hwq _).mono ?_
  rintro e w3 ⟨rfl, hb3⟩
  have HB3 := Hid.mk (HB2.out.trans hb3)
  clear hb3 HB2
  go_wp2
  go_ret2
  exact ⟨rfl, HB3.out⟩
set_option maxRecDepth 100000 in
set_option maxHeartbeats 400000 in
theorem held_no (q : Nat) (d : Int) (w : World) (hd : Calls Tryz.prog 59 #[.pointer (some ⟨q, 0, none⟩), .int .i64 d] w (RQ w (.pointer none))) :
    Calls Tryz.prog 32 #[.pointer (some ⟨q, 0, none⟩), .int .i64 d] w (RHeld w (0, 4)) := by
  have H := Hid.mk hd
  clear hd
  go_enter Tryz.func32, Tryz.ntmps32
  go_wp2_with fail
  refine H.out.mono ?_
  rintro e w1 ⟨rfl, hb1⟩
  have HB1 := Hid.mk hb1
  clear hb1 H
  go_wp2
  go_ret2
  exact ⟨rfl, HB1.out⟩
set_option maxRecDepth 100000 in
set_option maxHeartbeats 400000 in
theorem held_is (q p : Nat) (d : Int) (fm g : Nat) (c : Cfg) (vP vE : Value) (cg cf cp : Nat) (vT : Value) (nf : Bool) (w : World) (hd : Calls Tryz.prog 59 #[.pointer (some ⟨q, 0, none⟩), .int .i64 d] w (RQ w (.pointer (some ⟨p, 0, none⟩)))) (h : BoxC p 146 (plC fm g c vP vE cg cf cp vT nf) w) :
    Calls Tryz.prog 32 #[.pointer (some ⟨q, 0, none⟩), .int .i64 d] w (RHeld w (heldF g nf)) := by
  have H := Hid.mk hd
  have hq := fun wx (hx : Bel w wx) => plheld_is p fm g c vP vE cg cf cp vT nf wx (h.bel hx)
  generalize heldF g nf = hv at *
  clear hd h
  go_enter Tryz.func32, Tryz.ntmps32
  go_wp2_with fail
  refine H.out.mono ?_
  rintro e w1 ⟨rfl, hb1⟩
  have H2 := Hid.mk (hq w1 hb1)
  have HB1 := Hid.mk hb1
  clear hb1 H hq
  go_wp2_with fail
  refine H2.out.mono ?_
  rintro e w2 ⟨rfl, hb2⟩
  have HB2 := Hid.mk (HB1.out.trans hb2)
  clear hb2 H2 HB1
  go_wp2
  go_ret2
  exact ⟨rfl, HB2.out⟩
set_option maxRecDepth 100000 in
set_option maxHeartbeats 400000 in
theorem lookup_no (q : Nat) (d : Int) (k : ByteArray) (w : World) (hd : Calls Tryz.prog 59 #[.pointer (some ⟨q, 0, none⟩), .int .i64 d] w (RQ w (.pointer none))) :
    Calls Tryz.prog 33 #[.pointer (some ⟨q, 0, none⟩), .int .i64 d, .string k] w (RStrErr w (⟨#[]⟩, 4)) := by
  have H := Hid.mk hd
  clear hd
  go_enter Tryz.func33, Tryz.ntmps33
  go_wp2_with fail
  refine H.out.mono ?_
  rintro e w1 ⟨rfl, hb1⟩
  have HB1 := Hid.mk hb1
  clear hb1 H
  go_wp2
  go_ret2
  exact ⟨rfl, HB1.out⟩
set_option maxRecDepth 100000 in
set_option maxHeartbeats 400000 in
theorem lookup_is (q p : Nat) (d : Int) (k : ByteArray) (fm g : Nat) (c : Cfg) (vP vE : Value) (cg cf cp : Nat) (vT : Value) (nf : Bool) (B : List BK) (E : List EI) (w : World) (hd : Calls Tryz.prog 59 #[.pointer (some ⟨q, 0, none⟩), .int .i64 d] w (RQ w (.pointer (some ⟨p, 0, none⟩)))) (h : BoxC p 146 (plC fm g c vP vE cg cf cp vT nf) w) (hP : PoolAt w vP B) (hE : EIAt w vE E) (hlen : E.length ≤ 65536) (hc : g ≠ 0 → c.TOK) (hk : k.size ≤ 4611686018427386000) :
    Calls Tryz.prog 33 #[.pointer (some ⟨q, 0, none⟩), .int .i64 d, .string k] w (RStrErr w (plOwnF g c B E k)) := by
  have H := Hid.mk hd
  have hq := fun wx (hx : Bel w wx) => plowner_is p fm g c vP vE cg cf cp vT nf B E k wx (h.bel hx) (hP.later hx) (hE.later hx) hlen hc hk
  generalize plOwnF g c B E k = hv at *
  clear hd h hP hE hc
  go_enter Tryz.func33, Tryz.ntmps33
  go_wp2_with fail
  refine H.out.mono ?_
  rintro e w1 ⟨rfl, hb1⟩
  have H2 := Hid.mk (hq w1 hb1)
  have HB1 := Hid.mk hb1
  clear hb1 H hq
  go_wp2_with fail
  refine H2.out.mono ?_
  rintro e w2 ⟨rfl, hb2⟩
  have HB2 := Hid.mk (HB1.out.trans hb2)
  clear hb2 H2 HB1
  go_wp2
  go_ret2
  exact ⟨rfl, HB2.out⟩
def RErr (w : World) (err : Int) (e : Ending) (w' : World) : Prop := e = .returned (.int .i64 err) ∧ Bel w w'
def RErrB (p : Nat) (cs : Array Value) (w : World) (e : Ending) (w' : World) : Prop := e = .returned (.int .i64 0) ∧ But [p] w w' ∧ BoxC p 146 cs w'
set_option maxRecDepth 100000 in
set_option maxHeartbeats 400000 in
theorem restart_no (q : Nat) (d : Int) (w : World) (hd : Calls Tryz.prog 59 #[.pointer (some ⟨q, 0, none⟩), .int .i64 d] w (RQ w (.pointer none))) :
    Calls Tryz.prog 78 #[.pointer (some ⟨q, 0, none⟩), .int .i64 d] w (RErr w 4) := by
  have H := Hid.mk hd
  clear hd
  go_enter Tryz.func78, Tryz.ntmps78
  go_wp2_with fail
  refine H.out.mono ?_
  rintro e w1 ⟨rfl, hb1⟩
  have HB1 := Hid.mk hb1
  clear hb1 H
  go_wp2
  go_ret
  exact ⟨rfl, HB1.out⟩
set_option maxRecDepth 100000 in
set_option maxHeartbeats 400000 in
theorem restart_is (q p : Nat) (d : Int) (fm g : Nat) (c : Cfg) (vP vE : Value) (cg cf cp : Nat) (vT : Value) (nf : Bool) (w : World) (hd : Calls Tryz.prog 59 #[.pointer (some ⟨q, 0, none⟩), .int .i64 d] w (RQ w (.pointer (some ⟨p, 0, none⟩)))) (h : BoxC p 146 (plC fm g c vP vE cg cf cp vT nf) w) :
    Calls Tryz.prog 78 #[.pointer (some ⟨q, 0, none⟩), .int .i64 d] w (RErrB p (plNew fm) w) := by
  have H := Hid.mk hd
  have hq := fun wx (hx : Bel w wx) => plrestart_is p fm g c vP vE cg cf cp vT nf wx (h.bel hx)
  generalize plNew fm = pn at *
  clear hd h
  go_enter Tryz.func78, Tryz.ntmps78
  go_wp2_with fail
  refine H.out.mono ?_
  rintro e w1 ⟨rfl, hb1⟩
  have H2 := Hid.mk (hq w1 hb1)
  have HB1 := Hid.mk hb1
  clear hb1 H hq
  go_wp2_with fail
  refine H2.out.mono ?_
  rintro e w2 ⟨rfl, hB2, hX2⟩
  have HB2 := Hid.mk ((But.of_bel (M := [p]) HB1.out).trans hB2)
  have HX2 := Hid.mk hX2
  clear hB2 hX2 H2 HB1
  go_wp2
  go_ret
  exact ⟨rfl, HB2.out, HX2.out⟩

/-- what is right of an answer that is read -/
theorem answP_ok {l : List UInt8} {a : Ans} (h : answP l = some a) : ansOK a ∧ a.2.1 < 4294967296 ∧ a.2.2.1 < 256 ∧ a.2.2.2.1 < 65536 ∧ a.2.2.2.2.1 < 65536 ∧ a.2.2.2.2.2.length ≤ 48 := by
  unfold answP at h
  cases hO : openB l with
  | none => rw [hO] at h; cases h
  | some b =>
    rw [hO] at h
    have h' : (answX (b.length - 11) (bytesBits b)).bind (fun y => if endP (some y.2) = true ∧ y.1.1 = [65] ∧ ansOK y.1.2 then some y.1.2 else none) = some a := h
    cases hX : answX (b.length - 11) (bytesBits b) with
    | none => rw [hX] at h'; cases h'
    | some y =>
      rw [hX] at h'
      have h2 : (if endP (some y.2) = true ∧ y.1.1 = [65] ∧ ansOK y.1.2 then some y.1.2 else none) = some a := h'
      split at h2
      · rename_i hok
        injection h2 with h2
        subst h2
        refine ⟨hok.2.2, ?_⟩
        obtain ⟨t, Y1, -, hX⟩ := then_some hX
        obtain ⟨k, Y2, -, hX⟩ := then_some hX
        split at hX
        · obtain ⟨g, Y3, p1, hX⟩ := then_some hX
          obtain ⟨f, Y4, p2, hX⟩ := then_some hX
          obtain ⟨c, Y5, p3, hX⟩ := then_some hX
          obtain ⟨n, Y6, p4, hX⟩ := then_some hX
          obtain ⟨s, Y7, -, hX⟩ := then_some hX
          unfold doneP at hX
          injection hX with hX
          subst hX
          refine ⟨(numP_lt p1).1, (numP_lt p2).1, (numP_lt p3).1, (numP_lt p4).1, ?_⟩
          rcases hok.2.2 with h | h | h
          · cases h
          · cases h
          · exact h.2.2
        · unfold doneP at hX
          injection hX with hX
          subst hX
          exact ⟨by simp, by simp, by simp, by simp, by simp⟩
      · cases h2
def RRecv (p fm g : Nat) (c : Cfg) (vP vE : Value) (cg cf cp : Nat) (vT : Value) (nf : Bool) (T : List TP) (o : Option Ans) (w : World) (e : Ending) (w' : World) : Prop := e = .returned (.int .i64 0) ∧ match o with
  | none => Bel w w'
  | some a => ∃ w0, Bel w w0 ∧ RTake p fm g c vP vE cg cf cp vT nf T a w0 (.returned (.tuple #[])) w'
set_option maxRecDepth 100000 in
set_option maxHeartbeats 400000 in
theorem receive_no (q : Nat) (d : Int) (t : ByteArray) (w : World) (hd : Calls Tryz.prog 59 #[.pointer (some ⟨q, 0, none⟩), .int .i64 d] w (RQ w (.pointer none))) :
    Calls Tryz.prog 31 #[.pointer (some ⟨q, 0, none⟩), .int .i64 d, .string t] w (RErr w 4) := by
  have H := Hid.mk hd
  clear hd
  go_enter Tryz.func31, Tryz.ntmps31
  go_wp2_with fail
  refine H.out.mono ?_
  rintro e w1 ⟨rfl, hb1⟩
  have HB1 := Hid.mk hb1
  clear hb1 H
  go_wp2
  go_ret
  exact ⟨rfl, HB1.out⟩
set_option maxRecDepth 100000 in
set_option maxHeartbeats 600000 in
theorem receive_is (q p : Nat) (d : Int) (t : ByteArray) (fm g : Nat) (c : Cfg) (vP vE : Value) (cg cf cp : Nat) (vT : Value) (nf : Bool) (T : List TP) (w : World) (hd : Calls Tryz.prog 59 #[.pointer (some ⟨q, 0, none⟩), .int .i64 d] w (RQ w (.pointer (some ⟨p, 0, none⟩)))) (h : BoxC p 146 (plC fm g c vP vE cg cf cp vT nf) w) (hT : ThAt w vT T) (hl : T.length ≤ 65535) (hs : ∀ x ∈ T, x.2.length ≤ 65536) (hfm : fm < 256) (ht : t.size ≤ 1099511627776) :
    Calls Tryz.prog 31 #[.pointer (some ⟨q, 0, none⟩), .int .i64 d, .string t] w (RRecv p fm g c vP vE cg cf cp vT nf T (answP t.data.toList) w) := by
  have H := Hid.mk hd
  have hra := fun wx => reada_is t wx ht
  have HX := Hid.mk h
  have HT := Hid.mk hT
  clear hd h hT
  rcases ho : answP t.data.toList with _ | a
  · rw [ho] at hra
    unfold RAns ansV ansA at hra
    go_enter Tryz.func31, Tryz.ntmps31
    go_wp2_with fail
    refine H.out.mono ?_
    rintro e w1 ⟨rfl, hb1⟩
    have HB1 := Hid.mk hb1
    clear hb1 H
    go_wp2_with fail
    refine (hra _).mono ?_
    rintro e w2 ⟨rfl, hb2⟩
    have HB2 := Hid.mk ((HB1.out.trans hb2).step_alloc (.cells #[.int .i64 0, .int .i64 0, .int .i64 0, .int .i64 0, .int .i64 0, .string (txt [])] 97))
    clear hb2 hra HB1
    go_wp2
    go_ret
    exact ⟨rfl, HB2.out⟩
  · rw [ho] at hra
    have ok := answP_ok ho
    have hk : a.1 = 0 ∨ a.1 = 1 ∨ a.1 = 2 := by
      rcases ok.1 with h | h | h
      · exact Or.inl h
      · exact Or.inr (Or.inr h)
      · exact Or.inr (Or.inl h.1)
    have htk := fun wx (hx : Bel w wx) => pltake_is p fm g c vP vE cg cf cp vT nf T a wx (HX.out.bel hx) (HT.out.later hx) hl hs (by have := ok.2.2.2.2.2; omega) ok.2.2.1 hfm hk
    unfold RAns ansV ansA at hra
    unfold ansC at htk
    clear ok hk ho
    obtain ⟨k, ag, af, ap, an, ab⟩ := a
    simp only at *
    go_enter Tryz.func31, Tryz.ntmps31
    go_wp2_with fail
    refine H.out.mono ?_
    rintro e w1 ⟨rfl, hb1⟩
    have HB1 := Hid.mk hb1
    clear hb1 H
    go_wp2_with fail
    refine (hra _).mono ?_
    rintro e w2 ⟨rfl, hb2⟩
    have HB2 := Hid.mk ((HB1.out.trans hb2).step_alloc (.cells #[.int .i64 (k : Int), .int .i64 (ag : Int), .int .i64 (af : Int), .int .i64 (ap : Int), .int .i64 (an : Int), .string (txt ab)] 97))
    have H3 := Hid.mk (htk _ HB2.out)
    clear hb2 hra HB1 htk
    go_wp2_with fail
    refine H3.out.mono ?_
    rintro e w3 hR
    obtain ⟨rfl, -⟩ := id hR
    have HR := Hid.mk hR
    clear hR H3
    go_wp2
    go_ret
    exact ⟨rfl, _, HB2.out, HR.out⟩

end Go.Proofs.YtpapdkhjdelfcabGreat
