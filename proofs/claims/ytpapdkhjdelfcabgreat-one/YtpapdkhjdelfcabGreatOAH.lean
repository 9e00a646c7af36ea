import Derived.Test.YtpapdkhjdelfcabGreatOAG
import Derived.Test.YtpapdkhjdelfcabGreatOAF
import Derived.Test.YtpapdkhjdelfcabGreatOAE
namespace Go.Proofs.YtpapdkhjdelfcabGreat
open Go.RowKit

/-- what the network hangs on: the service, the dataplanes, the old frames -/
structure KP where
  on : Cfg
  B : List BK
  g : Nat
  pl : List Pln
  fr : List ByteArray
def KI.pu (k : KI) : KP := ⟨k.on, k.B, k.g.toNat, k.pp.map (fun y => y.2.1), k.fr⟩
def tickT (p : Pln) : ByteArray := txt (tickB p.g p.fm p.cg p.cf p.T)
def KP.tick (x : KP) (n : Nat) : ByteArray := match x.pl[n]? with
  | some p => tickT p
  | none => ⟨#[]⟩
def KP.serve (x : KP) (t : ByteArray) : ByteArray := txt (serveB x.on.formats.toNat x.g x.on x.B (mkF x.on x.B) t.data.toList)
noncomputable def KP.recv (x : KP) (n : Nat) (t : ByteArray) : KP := match x.pl[n]? with
  | some p => { x with pl := x.pl.set n (recvG p t.data.toList) }
  | none => x
def KP.keep (x : KP) (t : ByteArray) : KP := { x with fr := x.fr ++ [t] }
/-- the same world but for its dataplanes and frames -/
structure KTo (k k' : KI) (f : Nat) : Prop where
  eq : k' = { k with M := k'.M, pp := k'.pp, vf := k'.vf, fr := k'.fr, fb := k'.fb }
  len : k'.pp.length = k.pp.length
  fb : k'.fb ≤ k.fb + f
  sl : (∀ t ∈ k.fr, Seald t) → ∀ t ∈ k'.fr, Seald t
  tr : k.Tr → k'.Tr
theorem KTo.refl (k : KI) (f : Nat) : KTo k k f := ⟨rfl, rfl, Nat.le_add_right _ _, id, id⟩
theorem KTo.trans {k k' k2 : KI} {f f' : Nat} (h1 : KTo k k' f) (h2 : KTo k' k2 f') : KTo k k2 (f + f') := by
  refine ⟨?_, h2.len.trans h1.len, Nat.le_trans h2.fb (by have := h1.fb; omega), fun h => h2.sl (h1.sl h), fun h => h2.tr (h1.tr h)⟩
  have e := h2.eq
  rw [h1.eq] at e
  exact e
theorem KTo.wide {k k' : KI} {f f' : Nat} (h : KTo k k' f) (hf : f ≤ f') : KTo k k' f' := ⟨h.eq, h.len, Nat.le_trans h.fb (by omega), h.sl, h.tr⟩
theorem KTo.q {k k' : KI} {f : Nat} (h : KTo k k' f) : k'.q = k.q := by have e := congrArg KI.q h.eq; exact e
theorem KTo.on {k k' : KI} {f : Nat} (h : KTo k k' f) : k'.on = k.on := by have e := congrArg KI.on h.eq; exact e
theorem KTo.g {k k' : KI} {f : Nat} (h : KTo k k' f) : k'.g = k.g := by have e := congrArg KI.g h.eq; exact e
theorem KTo.B {k k' : KI} {f : Nat} (h : KTo k k' f) : k'.B = k.B := by have e := congrArg KI.B h.eq; exact e
theorem KTo.vh {k k' : KI} {f : Nat} (h : KTo k k' f) : k'.vh = k.vh := by have e := congrArg KI.vh h.eq; exact e
theorem KTo.hd {k k' : KI} {f : Nat} (h : KTo k k' f) : k'.hd = k.hd := by have e := congrArg KI.hd h.eq; exact e
theorem KTo.vs {k k' : KI} {f : Nat} (h : KTo k k' f) : k'.vs = k.vs := by have e := congrArg KI.vs h.eq; exact e
theorem KTo.sp {k k' : KI} {f : Nat} (h : KTo k k' f) : k'.sp = k.sp := by have e := congrArg KI.sp h.eq; exact e
theorem KTo.ds {k k' : KI} {f : Nat} (h : KTo k k' f) : k'.ds = k.ds := by have e := congrArg KI.ds h.eq; exact e
theorem KTo.dh {k k' : KI} {f : Nat} (h : KTo k k' f) : k'.dh = k.dh := by have e := congrArg KI.dh h.eq; exact e
theorem KTo.vr {k k' : KI} {f : Nat} (h : KTo k k' f) : k'.vr = k.vr := by have e := congrArg KI.vr h.eq; exact e
theorem KInv.gN {W0 : World} {p s : Nat} {k : KI} {w : World} (h : KInv W0 p s k w) : (k.g.toNat : Int) = k.g := Int.toNat_of_nonneg h.gen.1
theorem KInv.svcN {W0 : World} {p s : Nat} {k : KI} {w : World} (h : KInv W0 p s k w) : SvpAt k.M k.q ⟨k.on, k.B, (k.g.toNat : Int), k.L, k.pp⟩ w := by
  rw [h.gN]
  exact h.svc
theorem tickT_size (p : Pln) : (tickT p).size ≤ 16777216 := by unfold tickT; rw [txt_size]; exact tickB_len _ _ _ _ _
theorem KP.tick_size (x : KP) (n : Nat) : (x.tick n).size ≤ 16777216 := by
  unfold KP.tick
  split
  · exact tickT_size _
  · exact Nat.zero_le _
theorem KP.serve_size (x : KP) (t : ByteArray) : (x.serve t).size ≤ 16777216 := by unfold KP.serve; rw [txt_size]; exact serveB_len _ _ _ _ _ _

theorem open_seal {b : List UInt8} (hb : 0 < b.length) : openB (b ++ sumB (crcB b)) = some b := by
  unfold openB
  have e : (b ++ sumB (crcB b)).length - 4 = b.length := by rw [List.length_append, sumB_len]; omega
  rw [if_neg (by rw [List.length_append, sumB_len]; omega), e, List.take_left', List.drop_left', if_pos rfl]
  · rfl
  · rfl
theorem packB_pos {L : List Bool} (h : 8 ≤ L.length) : 0 < (packB L).length := by
  unfold packB
  split
  · exact Nat.zero_lt_succ _
  · exact absurd h (by decide)
  · exact Nat.zero_lt_succ _
theorem tick_seald {x : KP} {n : Nat} (hn : n < x.pl.length) : Seald (x.tick n) := by
  unfold KP.tick
  rw [List.getElem?_eq_getElem hn]
  exact ⟨_, open_seal (packB_pos (by simp [questB, numBits_len, bytesBits_len]))⟩
theorem frame_seald (a : Ans) : ∃ b, openB (frameA a) = some b := by
  unfold frameA
  split
  · exact ⟨_, open_seal (packB_pos (by simp [answ1, answ0, numBits_len, bytesBits_len]))⟩
  · exact ⟨_, open_seal (packB_pos (by simp [answ0, numBits_len, bytesBits_len]))⟩
theorem serve_seald {x : KP} {t : ByteArray} (h : (x.serve t).toList ≠ []) : Seald (x.serve t) := by
  unfold KP.serve serveB at h ⊢
  split
  · exact frame_seald _
  · rename_i hq
    rw [hq] at h
    exact absurd (by kernel_rfl) h

/-- an answer that is true leaves what is known true -/
theorem Tr_recv {k : KI} {n : Nat} {t : ByteArray} {M' R' : List Nat} {q : Nat} (hn : n < k.pp.length) (hOK : (k.pp[n]).2.1.OK) (hT : k.Tr) (hF : FrT k.on k.bs t) : ({ k with M := M', pp := k.pp.set n (q, recvG (k.pp[n]).2.1 t.data.toList, R') } : KI).Tr := by
  have hp : PlT k.on k.bs (k.pp[n]).2.1 := hT.plT _ (List.mem_map.2 ⟨k.pp[n], List.getElem_mem hn, rfl⟩)
  obtain ⟨r1, r2⟩ := recv_true hT.hist hp hOK hF
  refine ⟨hT.hist, hT.glen, hT.last, hT.frT, fun p hp => ?_, fun m x p hx hp => ?_⟩
  · have hp' : p ∈ (k.pp.set n (q, recvG (k.pp[n]).2.1 t.data.toList, R')).map fun y => y.2.1 := hp
    rw [List.map_set] at hp'
    rcases List.mem_or_eq_of_mem_set hp' with hp | hp
    · exact hT.plT p hp
    · rw [hp]; exact r1
  · have hp' : ((k.pp.set n (q, recvG (k.pp[n]).2.1 t.data.toList, R')).map fun y => y.2.1)[m]? = some p := hp
    rw [List.map_set] at hp'
    by_cases e : n = m
    · subst e
      rw [List.getElem?_set_self (by simpa using hn)] at hp'
      have h1 := hT.hdT n x (k.pp[n]).2.1 hx (by rw [List.getElem?_map, List.getElem?_eq_getElem hn]; rfl)
      rw [← Option.some.inj hp']
      show x ≤ ((recvG (k.pp[n]).2.1 t.data.toList).g : Int)
      omega
    · rw [List.getElem?_set_ne e] at hp'
      exact hT.hdT m x p hx hp'
theorem Tr_serve {k : KI} (hT : k.Tr) (t : ByteArray) : FrT k.on k.bs (k.pu.serve t) := by
  have hg := hT.glen
  refine serve_true hT.hist (B := k.B) (g := k.g.toNat) (by omega) (fun h1 => ?_) _
  have := hT.last (by omega)
  rwa [show k.bs.length = k.g.toNat by omega] at this
theorem Tr_tick (k : KI) (n : Nat) : FrT k.on k.bs (k.pu.tick n) := by
  unfold KP.tick
  split
  · exact tick_true _ _ _
  · intro a ha
    have : answP [] = none := answP_no (by unfold openB; rw [if_pos (by simp)])
    rw [show (⟨#[]⟩ : ByteArray).data.toList = [] from rfl, this] at ha
    cases ha
theorem ktick_is {W0 : World} {p s : Nat} {k : KI} {w : World} {n : Nat} (h : KInv W0 p s k w) (hn : n < k.pp.length) :
    Calls Tryz.prog 29 #[.pointer (some ⟨k.q, 0, none⟩), .int .i64 (n : Int)] w fun e w' => e = .returned (.tuple #[.string (k.pu.tick n), .int .i64 0]) ∧ Bel w w' := by
  refine (tick_v h.svc hn).mono ?_
  rintro e w' ⟨rfl, hb⟩
  have e1 : k.pu.tick n = txt (tickB (k.svp.ps[n]'hn).2.1.g (k.svp.ps[n]'hn).2.1.fm (k.svp.ps[n]'hn).2.1.cg (k.svp.ps[n]'hn).2.1.cf (k.svp.ps[n]'hn).2.1.T) := by
    unfold KP.tick KI.pu
    simp only [List.getElem?_map, List.getElem?_eq_getElem hn, Option.map_some]
    rfl
  exact ⟨by rw [e1], hb⟩
theorem kserve_is {W0 : World} {p s : Nat} {k : KI} {w : World} (h : KInv W0 p s k w) (hs : s ≤ 65600) (t : ByteArray) (ht : t.size ≤ 1099511627776) :
    Calls Tryz.prog 30 #[.pointer (some ⟨k.q, 0, none⟩), .string t] w fun e w' => e = .returned (.string (k.pu.serve t)) ∧ Bel w w' := by
  refine (serve_v k.M k.q k.on k.B k.g.toNat t w h.svcN (mkF_len _ _ h.onok h.good.1) h.onok h.good.1 (by have := h.gen; omega) ht).mono ?_
  rintro e w' ⟨rfl, hb⟩
  exact ⟨rfl, hb⟩
def RRec (W0 : World) (p s : Nat) (k : KI) (x : KP) (e : Ending) (w' : World) : Prop := e = .returned (.int .i64 0) ∧ ∃ k', KInv W0 p s k' w' ∧ KTo k k' 0 ∧ k'.pu = x
theorem krecv_is {W0 : World} {p s : Nat} {k : KI} {w : World} {n : Nat} (h : KInv W0 p s k w) (hn : n < k.pp.length) (t : ByteArray) (ht : t.size ≤ 1099511627776) (hF : k.Tr → FrT k.on k.bs t) :
    Calls Tryz.prog 31 #[.pointer (some ⟨k.q, 0, none⟩), .int .i64 (n : Int), .string t] w (RRec W0 p s k (k.pu.recv n t)) := by
  refine (receive_v h.svc (fun j hj => (h.lt j hj).2) hn t ht).mono ?_
  intro e w' hr
  obtain ⟨R', hK⟩ := h.plane hn hr
  refine ⟨hr.1, _, hK, ⟨rfl, by simp, Nat.le_refl _, id, fun hT => Tr_recv hn (h.svc.pl hn).2 hT (hF hT)⟩, ?_⟩
  unfold KP.recv KI.pu
  simp only [List.getElem?_map, List.getElem?_eq_getElem hn, Option.map_some, List.map_set]
  rfl
def RRes (W0 : World) (p s : Nat) (k : KI) (n : Nat) (e : Ending) (w' : World) : Prop := e = .returned (.int .i64 0) ∧ ∃ M' pp', KInv W0 p s { k with M := M', pp := pp' } w' ∧ pp'.length = k.pp.length ∧ (k.Tr → TruP k.on k.bs k.g k.B k.fr (pp'.map fun y => y.2.1) (k.hd.set n 0))
theorem krestart_is {W0 : World} {p s : Nat} {k : KI} {w : World} {n : Nat} (h : KInv W0 p s k w) (hn : n < k.pp.length) :
    Calls Tryz.prog 78 #[.pointer (some ⟨k.q, 0, none⟩), .int .i64 (n : Int)] w (RRes W0 p s k n) := by
  refine (restart_v h.svc (fun j hj => (h.lt j hj).2) hn).mono ?_
  intro e w' hr
  obtain ⟨R', hK⟩ := h.plane hn hr
  refine ⟨hr.1, _, _, hK, by simp, fun hT => ⟨hT.hist, hT.glen, hT.last, hT.frT, fun p hp => ?_, fun m x p hx hp => ?_⟩⟩
  · rw [List.map_set] at hp
    rcases List.mem_or_eq_of_mem_set hp with hp | hp
    · exact hT.plT p hp
    · rw [hp]; exact new_true _ _ _
  · rw [List.map_set] at hp
    by_cases e : n = m
    · subst e
      have hl := (List.getElem?_eq_some_iff.1 hx).1
      rw [List.getElem?_set_self (by simpa using hl)] at hx
      rw [← Option.some.inj hx]
      omega
    · rw [List.getElem?_set_ne e] at hx hp
      exact hT.hdT m x p hx hp

def RTo (W0 : World) (p s : Nat) (k : KI) (f : Nat) (x : KP) (e : Ending) (w' : World) : Prop := e = .returned (.tuple #[]) ∧ ∃ k', KInv W0 p s k' w' ∧ KTo k k' f ∧ k'.pu = x

set_option maxRecDepth 100000 in
set_option maxHeartbeats 400000 in
/-- an old frame more -/
theorem kkeep_is {W0 : World} {p s : Nat} {k : KI} {w : World} (h : KInv W0 p s k w) (S : ByteArray) (hS : S.size ≤ 1099511627776) (hfb : k.fb ≤ 1000000000000) (hsl : Seald S) (hF : k.Tr → FrT k.on k.bs S) :
    Calls Tryz.prog 135 #[.pointer (some ⟨p, 0, none⟩), .string S] w (RTo W0 p s k 1 (k.pu.keep S)) := by
  obtain ⟨i0, hi, hz0, hz1, hz2⟩ := info_parts Tryz.infoStr
  have HI := Hid.mk h
  have HR := Hid.mk h.frames
  have c18 := h.at_.1 18 _ rfl
  have f18 := h.at_.2 18 (by rw [wl_len]; decide)
  have hplt := World.block_lt_of_cell? w _ c18
  have hfl := h.flen
  have hb0 := h.bel.size
  have hpn : p ∉ gl k.vf := fun e => h.apart.2.2.2.1 p e rfl
  have hkm : (k.fr.map Value.string).length = k.fr.length := List.length_map _
  clear h
  obtain ⟨vf, hvf⟩ : ∃ vf, vf = k.vf := ⟨_, rfl⟩
  obtain ⟨n, hn⟩ : ∃ n, n = k.fr.length := ⟨_, rfl⟩
  obtain ⟨xs, hxs⟩ : ∃ xs, xs = k.fr.map Value.string := ⟨_, rfl⟩
  rw [← hvf] at HR c18 hpn
  rw [← hn] at HR hfl hkm
  rw [← hxs] at HR hkm
  have HV := Hid.mk hvf
  have HN := Hid.mk hn
  have HX := Hid.mk hxs
  clear hvf hn hxs
  go_enter Tryz.func135, Tryz.ntmps135
  go_wp2_with (first | (at_builtin; refine wpList_append_lies _ rfl _ _ 40 rfl W0.heap.size 9 i0 (.string ByteArray.empty) 1 16 Tryz.underlying40 hi hz0 hz1 hz2 rfl (by decide) _ n xs rfl ?p1 ⟨w.heap.size, 0, none⟩ 1 1 [.string S] rfl rfl ?d1 ?d2 (by decide) ?d3 ?d4 ?d5 _ rfl ?_))
  case p1 => exact World.ownsRow.alloc HR.out _
  try (case d1 => exact one_new _ _ _ _ (by simp))
  case d2 => first | rfl | (intro u hu; simp at hu; subst hu; rfl)
  case d3 => unfold maxLen; omega
  case d4 => omega
  case d5 => first | omega | (simp; omega)
  intro g cap w3 hown3 hgrow3 hat3 hlt3
  have b3 : But (gl vf) w w3 := (But.of_bel (Bel.step_alloc (Bel.refl w) _)).trans (grown_but hgrow3)
  have x18 := b3.cell c18 hpn
  have y18 := b3.frozen c18 hpn f18
  have HO := Hid.mk hown3
  have hg : Hid (vf.ownBlock = some g ∨ w.heap.size ≤ g) := hat3.imp id (fun e => by first | omega | (rw [e]; simp))
  clear hown3 hgrow3 hat3
  go_wp2
  go_end0
  have hvf := HV.out
  have hn := HN.out
  have hxs := HX.out
  subst hvf hn hxs
  exact ⟨rfl, _, HI.out.frame b3 HO.out hg.out hS, ⟨rfl, rfl, Nat.le_refl _, fun h t ht => (List.mem_append.1 ht).elim (h t) (fun e => by rw [List.mem_singleton.1 e]; exact hsl), fun hT => ⟨hT.hist, hT.glen, hT.last, fun t ht => (List.mem_append.1 ht).elim (hT.frT t) (fun e => by rw [List.mem_singleton.1 e]; exact hF hT), hT.plT, hT.hdT⟩⟩, rfl⟩

end Go.Proofs.YtpapdkhjdelfcabGreat

namespace Go.Proofs.YtpapdkhjdelfcabGreat
open Go.RowKit

def fB : List BK := [(nB, 1)]
def fE : List EI := [(0, 0), (0, 0), (0, 0), (0, 0), (0, 0), (0, 0), (0, 0)]
def cfgF : Cfg := { cfgA with formats := 0 }
theorem fetch_mag : maglevF cfgA fB = [0, 0, 0, 0, 0, 0, 0] := by decide +kernel
theorem fetch_mk : mkF cfgA fB = fE := by
  rw [mkF, if_neg (by decide), if_pos (show cfgA.alg = 1 from rfl), fetch_mag]; rfl
theorem fB_good : Good fB := by have := Good.nil.add nB 1; rwa [alive_add1.2] at this
def fI : List UInt8 := imageB 2 1 cfgA fB fE
def fA : Ans := (1, 1, 2, 1, 0, fI)
theorem fetch_1 : answP (serveB 3 1 cfgA fB fE (tickB 0 3 0 0 [])) = some fA := by kernel_rfl
theorem fetch_2 : answP (serveB 3 1 cfgA fB fE (tickB 1 3 0 0 [])) = some (0, 0, 0, 0, 0, []) := by kernel_rfl
def fBits : List Bool := bytesBits (packB (bodyB 2 1 cfgA fB fE))
theorem fetch_open : openB fI = some (packB (bodyB 2 1 cfgA fB fE)) := open_seal (packB_pos (by decide +kernel))
def rest1 : List Bool := fBits.drop 16
def rest2 : List Bool := fBits.drop (16 + 208)
def rest3 : List Bool := ((bksX rest2).map Prod.snd).getD []
def rest4 : List Bool := rest3.drop 16
def rest5 : List Bool := ((manyP (oneEn (wpF 1) (woF 2 1 1)) 7 rest4).map Prod.snd).getD []
theorem st1 : (some fBits).bind (textP 2) = (some rest1).map (Prod.mk [67, 72]) := by kernel_rfl
theorem st2 : (some rest1).bind headX = (some rest2).map (Prod.mk (2, 1, cfgF)) := by kernel_rfl
theorem st3 : (some rest2).bind bksX = (some rest3).map (Prod.mk fB) := by kernel_rfl
theorem st4 : (some rest3).bind (numP 16) = (some rest4).map (Prod.mk 7) := by kernel_rfl
theorem st5 : (some rest4).bind (manyP (oneEn (wpF cfgF.alg) (woF 2 cfgF.alg fB.length)) 7) = (some rest5).map (Prod.mk fE) := by kernel_rfl
theorem cfgF_tok : cfgF.TOK := ((Cfg.ok_iff cfgA).1 cfgA_ok).1
theorem fetch_right : RightG 1 cfgF fB fE := by
  refine ⟨⟨by decide, by decide⟩, by decide +kernel, fun e he => ⟨0, by decide, ?_, by decide⟩, fun h => absurd h (by decide)⟩
  simp [fE] at he
  rw [he]; rfl
theorem fetch_img : imageP fI = some (2, 1, cfgF, fB, fE) := by
  unfold imageP
  rw [fetch_open, Option.bind_some, show bytesBits (packB (bodyB 2 1 cfgA fB fE)) = fBits from rfl, imgT_step st1, if_pos rfl, imgH_step st2, if_pos ⟨⟨by decide, by decide⟩, cfgF_tok⟩, imgB_step st3, if_pos fB_good, imgN_step st4, imgE_step st5]
  unfold imgEnd
  rw [if_pos ⟨by kernel_rfl, fetch_right⟩]
def fP : Pln := ⟨3, 1, cfgF, fB, fE, 0, 0, 0, [], false⟩
theorem fetch_take : takeG (plnNew 3) fA = fP := by
  unfold takeG
  have h1 : newT (plnNew 3).cg (plnNew 3).cf (plnNew 3).cp (plnNew 3).T fA = [(0, fI)] := by kernel_rfl
  have h2 : com1 (plnNew 3).cg (plnNew 3).cf (plnNew 3).cp (plnNew 3).T fA = (1, 2, 1, []) := by kernel_rfl
  have h3 : thB [(0, fI)] = fI := by simp [thB]
  have h4 : useP (plnNew 3).fm (plnNew 3).g (plnNew 3).cg (plnNew 3).cf (plnNew 3).cp (plnNew 3).T fA := ⟨by kernel_rfl, by rw [h2]; rfl, by rw [h2]; rfl⟩
  rw [if_neg (by decide), if_pos h4, h1, h2, if_pos (show [((0 : Nat), fI)].length = (1, 2, 1, ([] : List TP)).2.2.1 from rfl), h3, fetch_img]
  exact if_pos ⟨rfl, rfl⟩
theorem fetch_r1 : recvG (plnNew 3) (serveB 3 1 cfgA fB fE (tickB 0 3 0 0 [])) = fP := by
  unfold recvG
  rw [fetch_1]
  exact fetch_take
theorem fetch_r2 : recvG fP (serveB 3 1 cfgA fB fE (tickB 1 3 0 0 [])) = fP := by
  unfold recvG
  rw [fetch_2]
  show takeG fP _ = _
  unfold takeG
  rw [if_pos (by decide)]
  rfl
theorem fetch_own : plOwnF 1 cfgF fB fE ⟨#[107]⟩ = (nB, 0) := by decide +kernel

end Go.Proofs.YtpapdkhjdelfcabGreat

namespace Go.Proofs.YtpapdkhjdelfcabGreat
open Go.RowKit

/-- the law's world before it has a service -/
def wl0 (part : Int) (c : Cfg) (r : List Value) : List Value := [.int .i64 part, .int .i64 c.alg, .int .i64 c.slots, .int .i64 c.points, .int .i64 c.probes, .string c.key, .int .i64 c.formats] ++ r
theorem WAt.len {p : Nat} {L : List Value} {w : World} (h : WAt p L w) {o : Nat} (ho : o < L.length) : ∃ u, w.cell? ⟨p, o, none⟩ = some u := ⟨L[o], h.1 o _ (by simp [ho])⟩
theorem SvcAt.svp {M : List Nat} {q : Nat} {c : Cfg} {B : List BK} {g : Int} {w : World} (h : SvcAt (.slice none 0 0) M q c B g w) : SvpAt M q ⟨c, B, g, [], []⟩ w :=
  ⟨_, h, World.ownsRow_nil _ _ _ _, rfl, by simp, by simp, by simp [Svp.own, blk], by simp⟩
theorem tr_begin {c : Cfg} (hc : c.OK) : TruP c [] 0 [] [] [] [] := ⟨⟨hc, by simp, fun B hB => (by cases hB)⟩, rfl, fun h => absurd h (by decide), fun t ht => (by cases ht), fun y hy => (by cases hy), fun n x y h _ => (by simp at h)⟩
def RBegin (W0 : World) (p s : Nat) (e : Ending) (w' : World) : Prop := e = .returned (.bool true) ∧ ∃ k, KInv W0 p s k w' ∧ k.Rdy s

set_option maxRecDepth 100000 in
set_option maxHeartbeats 1600000 in
theorem kbegin_is (W0 : World) (p s : Nat) (part : Int) (c : Cfg) (r7 r8 r9 r10 r11 r12 r13 r14 r15 r16 r17 r18 r19 : Value) (w : World) (hW : WAt p (wl0 part c [r7, r8, r9, r10, r11, r12, r13, r14, r15, r16, r17, r18, r19]) w) (hc : c.OK) (hb : Bel W0 w) (hp : W0.heap.size ≤ p) :
    Calls Tryz.prog 35 #[.pointer (some ⟨p, 0, none⟩)] w (RBegin W0 p s) := by
  have hnw := new_is c w hc
  have HC := Hid.mk hc
  have HW := Hid.mk hW
  have hplt : p < w.heap.size := hW.lt (by simp [wl0])
  have k1 := hW.1 1 _ rfl
  have k2 := hW.1 2 _ rfl
  have k3 := hW.1 3 _ rfl
  have k4 := hW.1 4 _ rfl
  have k5 := hW.1 5 _ rfl
  have k6 := hW.1 6 _ rfl
  have hcs : Hid (∀ o u, 7 ≤ o → (wl0 part c [r7, r8, r9, r10, r11, r12, r13, r14, r15, r16, r17, r18, r19])[o]? = some u → w.cell? ⟨p, o, none⟩ = some u ∧ w.frozen? ⟨p, o, none⟩ = false) := fun o u _ h => ⟨hW.1 o u h, hW.2 o (List.getElem?_eq_some_iff.1 h).1⟩
  clear hW hc
  obtain ⟨c7, f7⟩ := hcs.out 7 _ (by omega) rfl
  obtain ⟨c8, f8⟩ := hcs.out 8 _ (by omega) rfl
  obtain ⟨c9, f9⟩ := hcs.out 9 _ (by omega) rfl
  obtain ⟨c10, f10⟩ := hcs.out 10 _ (by omega) rfl
  obtain ⟨c11, f11⟩ := hcs.out 11 _ (by omega) rfl
  obtain ⟨c12, f12⟩ := hcs.out 12 _ (by omega) rfl
  obtain ⟨c13, f13⟩ := hcs.out 13 _ (by omega) rfl
  obtain ⟨c14, f14⟩ := hcs.out 14 _ (by omega) rfl
  obtain ⟨c15, f15⟩ := hcs.out 15 _ (by omega) rfl
  obtain ⟨c16, f16⟩ := hcs.out 16 _ (by omega) rfl
  obtain ⟨c17, f17⟩ := hcs.out 17 _ (by omega) rfl
  obtain ⟨c18, f18⟩ := hcs.out 18 _ (by omega) rfl
  obtain ⟨c19, f19⟩ := hcs.out 19 _ (by omega) rfl
  clear hcs
  go_enter Tryz.func35, Tryz.ntmps35
  simp only [Cfg.cells] at hnw
  go_wp2_with fail
  refine hnw.mono ?_
  rintro e w1 ⟨q, rfl, hb1, hq1, hq2, hS⟩
  have l1 := hb1.cell k1
  have l2 := hb1.cell k2
  have l3 := hb1.cell k3
  have l4 := hb1.cell k4
  have l5 := hb1.cell k5
  have l6 := hb1.cell k6
  have d7 := hb1.cell c7
  have d8 := hb1.cell c8
  have d9 := hb1.cell c9
  have d10 := hb1.cell c10
  have d11 := hb1.cell c11
  have d12 := hb1.cell c12
  have d13 := hb1.cell c13
  have d14 := hb1.cell c14
  have d15 := hb1.cell c15
  have d16 := hb1.cell c16
  have d17 := hb1.cell c17
  have d18 := hb1.cell c18
  have d19 := hb1.cell c19
  have e7 := hb1.frozen c7 f7
  have e8 := hb1.frozen c8 f8
  have e9 := hb1.frozen c9 f9
  have e10 := hb1.frozen c10 f10
  have e11 := hb1.frozen c11 f11
  have e12 := hb1.frozen c12 f12
  have e13 := hb1.frozen c13 f13
  have e14 := hb1.frozen c14 f14
  have e15 := hb1.frozen c15 f15
  have e16 := hb1.frozen c16 f16
  have e17 := hb1.frozen c17 f17
  have e18 := hb1.frozen c18 f18
  have e19 := hb1.frozen c19 f19
  have HS := Hid.mk hS
  have hplt1 : p < w1.heap.size := Nat.lt_of_lt_of_le hplt hb1.size
  clear c7 c8 c9 c10 c11 c12 c13 c14 c15 c16 c17 c18 c19 f7 f8 f9 f10 f11 f12 f13 f14 f15 f16 f17 f18 f19 k1 k2 k3 k4 k5 k6 hS hnw
  go_wp2
  go_ret
  have hW1 := HW.out.later hb1
  obtain ⟨w2, hw2⟩ : ∃ w2, w2 = (((((((((((((w1.setCell ⟨p, 7, none⟩ (.pointer (some ⟨q, 0, none⟩))).setCell ⟨p, 8, none⟩ (.int .i64 c.alg)).setCell ⟨p, 9, none⟩ (.int .i64 c.slots)).setCell ⟨p, 10, none⟩ (.int .i64 c.points)).setCell ⟨p, 11, none⟩ (.int .i64 c.probes)).setCell ⟨p, 12, none⟩ (.string c.key)).setCell ⟨p, 13, none⟩ (.int .i64 c.formats)).setCell ⟨p, 14, none⟩ (.slice none 0 0)).setCell ⟨p, 15, none⟩ (.slice (some ⟨w1.heap.size, 0, none⟩) 1 1)).setCell ⟨p, 16, none⟩ (.slice none 0 0)).setCell ⟨p, 17, none⟩ (.slice none 0 0)).setCell ⟨p, 18, none⟩ (.slice none 0 0)).setCell ⟨p, 19, none⟩ (.string { data := #[] })) := ⟨_, rfl⟩
  have hW2 := (((((((((((((hW1.set 7 (.pointer (some ⟨q, 0, none⟩))).set 8 (.int .i64 c.alg)).set 9 (.int .i64 c.slots)).set 10 (.int .i64 c.points)).set 11 (.int .i64 c.probes)).set 12 (.string c.key)).set 13 (.int .i64 c.formats)).set 14 (.slice none 0 0)).set 15 (.slice (some ⟨w1.heap.size, 0, none⟩) 1 1)).set 16 (.slice none 0 0)).set 17 (.slice none 0 0)).set 18 (.slice none 0 0)).set 19 (.string { data := #[] }))
  have b2 : But [p] w1 w2 := by
    rw [hw2]
    exact ((((((((((((((But.refl [p] w1).set (p := ⟨p, 7, none⟩) (by simp) _).set (p := ⟨p, 8, none⟩) (by simp) _).set (p := ⟨p, 9, none⟩) (by simp) _).set (p := ⟨p, 10, none⟩) (by simp) _).set (p := ⟨p, 11, none⟩) (by simp) _).set (p := ⟨p, 12, none⟩) (by simp) _).set (p := ⟨p, 13, none⟩) (by simp) _).set (p := ⟨p, 14, none⟩) (by simp) _).set (p := ⟨p, 15, none⟩) (by simp) _).set (p := ⟨p, 16, none⟩) (by simp) _).set (p := ⟨p, 17, none⟩) (by simp) _).set (p := ⟨p, 18, none⟩) (by simp) _).set (p := ⟨p, 19, none⟩) (by simp) _)
  rw [← hw2] at hW2 ⊢
  have hs2 : w2.heap.size = w1.heap.size := by rw [hw2]; simp [World.setCell]
  have hown : (w2.alloc (.cells #[.slice none 0 0] 40)).ownsRow W0.heap.size 40 1 (.slice (some ⟨w1.heap.size, 0, none⟩) 1 1) 1 [.slice none 0 0] := by
    rw [← hs2]
    exact World.ownsRow_lit w2 #[.slice none 0 0] 1 (by have := (hb.trans hb1).size; omega) (by decide) rfl
  have b4 : But [p] w1 (w2.alloc (.cells #[.slice none 0 0] 40)) := b2.alloc _
  have hW4 := hW2.later ((Bel.refl w2).step_alloc (.cells #[.slice none 0 0] 40))
  have hs4 : (w2.alloc (.cells #[.slice none 0 0] 40)).heap.size = w1.heap.size + 1 := by simp [hs2]
  have hqp : p ≠ q := by omega
  have hsf := b4.size
  have hM : ∀ j ∈ [w1.heap.size, q, p], W0.heap.size ≤ j ∧ j < (w2.alloc (.cells #[.slice none 0 0] 40)).heap.size := by
    intro j hj
    have h0 := (hb.trans hb1).size
    have h1 := hb.size
    simp only [List.mem_cons, List.not_mem_nil, or_false] at hj
    rcases hj with rfl | rfl | rfl
    · exact ⟨h0, by rw [hs4]; omega⟩
    · exact ⟨by omega, by rw [hs4]; omega⟩
    · exact ⟨hp, by rw [hs4]; omega⟩
  have hS4 : SvpAt [w1.heap.size, q, p] q ⟨c, [], 0, [], []⟩ (w2.alloc (.cells #[.slice none 0 0] 40)) := (SvcAt.svp (HS.out [w1.heap.size, q, p] (by simp))).but b4 (by simpa [Svp.own, blk] using hqp) (by simp)
  have hz := fun (e : TypeId) (sz : Nat) => World.ownsRow_nil (w2.alloc (.cells #[.slice none 0 0] 40)) W0.heap.size e sz
  refine ⟨rfl, ⟨[w1.heap.size, q, p], q, c, c, [], 0, .slice none 0 0, .slice (some ⟨w1.heap.size, 0, none⟩) 1 1, .slice none 0 0, .slice none 0 0, .slice none 0 0, ByteArray.empty, part, [], [], [], [], [], [], 0, 0, 0, []⟩, ⟨hW4, ?_, ?_, hM, But.belTo (hb.trans hb1) b4 (by intro j hj; simp at hj; subst hj; exact hp), hS4, Or.inl ⟨rfl, rfl, rfl⟩, Good.nil, HC.out, HC.out, ⟨by simp, by simp, fun _ => rfl⟩, hown, rfl, ⟨rfl, fun i v X hv hX => by simp at hv⟩, hz _ _, hz _ _, rfl, rfl, fun x hx => by simp at hx, hz _ _, Nat.le_refl _, fun t ht => by simp at ht, Nat.zero_le _⟩, rfl, rfl, Nat.zero_le _, fun t ht => by simp at ht, Or.inl rfl, tr_begin HC.out⟩
  · show (p :: (gl (.slice (some ⟨w1.heap.size, 0, none⟩) 1 1) ++ gl (.slice none 0 0) ++ gl (.slice none 0 0) ++ gl (.slice none 0 0) ++ (Svp.mk c [] 0 [] []).own q)).Nodup
    simp [gl, Value.ownBlock, Svp.own, blk]
    omega
  · intro j hj
    have : j ∈ p :: (gl (.slice (some ⟨w1.heap.size, 0, none⟩) 1 1) ++ gl (.slice none 0 0) ++ gl (.slice none 0 0) ++ gl (.slice none 0 0) ++ (Svp.mk c [] 0 [] []).own q) := hj
    simp [gl, Value.ownBlock, Svp.own, blk] at this
    simp
    omega

end Go.Proofs.YtpapdkhjdelfcabGreat

namespace Go.Proofs.YtpapdkhjdelfcabGreat
open Go.RowKit

def RNumK (W0 : World) (p s : Nat) (e : Ending) (w' : World) : Prop := e = .returned (.tuple #[]) ∧ ∃ k, KInv W0 p s k w' ∧ k.Rdy s
def primesL : List Nat := [3, 5, 7, 11, 13, 17, 23, 31, 43, 61, 101, 151, 211]
theorem primesL_ok (j : Nat) (h : j < 13) : 3 ≤ primesL.getD j 0 ∧ primesL.getD j 0 ≤ 211 ∧ ∀ d : Nat, 2 ≤ d → (d : Int) < (primesL.getD j 0 : Nat) → ((primesL.getD j 0 : Nat) : Int) % d ≠ 0 := by
  have key : ∀ j, j < 13 → 3 ≤ primesL.getD j 0 ∧ primesL.getD j 0 ≤ 211 ∧ ∀ d, d < 211 → 2 ≤ d → d < primesL.getD j 0 → primesL.getD j 0 % d ≠ 0 := by decide +kernel
  obtain ⟨h1, h2, h3⟩ := key j h
  refine ⟨h1, h2, fun d hd1 hd2 => ?_⟩
  have := h3 d (by omega) hd1 (by omega)
  omega

set_option maxRecDepth 100000 in
set_option maxHeartbeats 400000 in
theorem primes_is (w : World) : Calls Tryz.prog 128 #[] w fun e w' => e = .returned (.slice (some ⟨w.heap.size, 0, none⟩) 13 13) ∧ w' = w.alloc (.cells #[.int .i64 3, .int .i64 5, .int .i64 7, .int .i64 11, .int .i64 13, .int .i64 17, .int .i64 23, .int .i64 31, .int .i64 43, .int .i64 61, .int .i64 101, .int .i64 151, .int .i64 211] 3) := by
  go_enter Tryz.func128, Tryz.ntmps128
  go_wp2
  go_ret
  exact ⟨rfl, rfl⟩
theorem primes_cell (w : World) (j : Nat) (h : j < 13) : (w.alloc (.cells #[.int .i64 3, .int .i64 5, .int .i64 7, .int .i64 11, .int .i64 13, .int .i64 17, .int .i64 23, .int .i64 31, .int .i64 43, .int .i64 61, .int .i64 101, .int .i64 151, .int .i64 211] 3)).cell? ⟨w.heap.size, j, none⟩ = some (.int .i64 (primesL.getD j 0 : Nat)) := by
  rcases (show j = 0 ∨ j = 1 ∨ j = 2 ∨ j = 3 ∨ j = 4 ∨ j = 5 ∨ j = 6 ∨ j = 7 ∨ j = 8 ∨ j = 9 ∨ j = 10 ∨ j = 11 ∨ j = 12 by omega) with rfl | rfl | rfl | rfl | rfl | rfl | rfl | rfl | rfl | rfl | rfl | rfl | rfl <;> simp [primesL]

set_option maxRecDepth 100000 in
set_option maxHeartbeats 1600000 in
theorem number_is (W0 : World) (p s : Nat) (k : KI) (kk v : Int) (w : World) (h : KInv W0 p s k w) (hR : k.Rdy s) (hk0 : 0 ≤ kk) (hk4 : kk < 5) (hv : I64 v) :
    Calls Tryz.prog 71 #[.pointer (some ⟨p, 0, none⟩), .int .i64 kk, .int .i64 v] w (RNumK W0 p s) := by
  have hW := h.at_
  have hc := h.cok
  have HI := Hid.mk h
  obtain ⟨hc1, hc2, hc3, hc4, hc5, hc6, hc7, hc8, hc9, hc10, hc11, hc12⟩ := hc
  rcases (show kk = 0 ∨ kk = 1 ∨ kk = 2 ∨ kk = 3 ∨ kk = 4 by omega) with rfl | rfl | rfl | rfl | rfl
  · have hpk := fun wx => pick_is v 4 wx hv (by omega) (by omega)
    obtain ⟨hx1, hx2⟩ := pickF_range v 4 (by omega)
    generalize pickF v 4 = x at *
    have c0 := hW.1 1 _ rfl
    have f0 := hW.2 1 (by rw [wl_len]; decide)
    have hok : Hid (Cfg.OK { k.c with alg := 1 + x }) := ⟨(by simp only; omega), (by simp only; omega), hc3, hc4, hc5, hc6, hc7, hc8, hc9, hc10, hc11, hc12⟩
    have HW := Hid.mk (hW.set 1 (.int .i64 (1 + x)))
    clear h hW
    go_enter Tryz.func71, Tryz.ntmps71
    go_wp2_with fail
    refine (hpk _).mono ?_
    rintro e w' ⟨rfl, rfl⟩
    go_wp2
    go_end0
    exact ⟨rfl, _, HI.out.setW (c' := { k.c with alg := 1 + x }) (part' := k.part) ((But.refl _ _).set (by simp) _) HW.out hok.out HI.out.isz, hR⟩
  · have hpk := fun wx => pick_is v 13 wx hv (by omega) (by omega)
    obtain ⟨hx1, hx2⟩ := pickF_range v 13 (by omega)
    generalize pickF v 13 = x at *
    obtain ⟨j, rfl⟩ : ∃ j : Nat, x = (j : Int) := ⟨x.toNat, by omega⟩
    obtain ⟨q1, q2, q3⟩ := primesL_ok j (by omega)
    have hpc := fun wx => primes_cell wx j (by omega)
    generalize primesL.getD j 0 = pr at *
    have c0 := hW.1 2 _ rfl
    have f0 := hW.2 2 (by rw [wl_len]; decide)
    have hplt := hW.lt (by rw [wl_len]; decide)
    have hok : Hid (Cfg.OK { k.c with slots := (pr : Int) }) := ⟨hc1, hc2, by simp only; omega, by simp only; omega, q3, hc6, hc7, hc8, hc9, hc10, hc11, hc12⟩
    clear h hW q3
    go_enter Tryz.func71, Tryz.ntmps71
    go_wp2_with fail
    refine (primes_is _).mono ?_
    rintro e w' ⟨rfl, rfl⟩
    have hpc := hpc w
    obtain ⟨wa, hwa⟩ : ∃ wa, wa = w.alloc (.cells #[.int .i64 3, .int .i64 5, .int .i64 7, .int .i64 11, .int .i64 13, .int .i64 17, .int .i64 23, .int .i64 31, .int .i64 43, .int .i64 61, .int .i64 101, .int .i64 151, .int .i64 211] 3) := ⟨_, rfl⟩
    have hba : Bel w wa := by rw [hwa]; exact (Bel.refl w).step_alloc _
    rw [← hwa] at hpc ⊢
    have c0' := hba.cell c0
    have f0' := hba.frozen c0 f0
    have HW := Hid.mk (((HI.out.at_).later hba).set 2 (.int .i64 (pr : Int)))
    generalize w.heap.size = pz at *
    clear hwa c0 f0
    go_wp2_with fail
    refine (hpk _).mono ?_
    rintro e w' ⟨rfl, rfl⟩
    go_wp2
    go_end0
    exact ⟨rfl, _, (HI.out.later hba).setW (c' := { k.c with slots := (pr : Int) }) (part' := k.part) ((But.refl _ _).set (by simp) _) HW.out hok.out HI.out.isz, hR⟩
  · have hpk := fun wx => pick_is v 3 wx hv (by omega) (by omega)
    obtain ⟨hx1, hx2⟩ := pickF_range v 3 (by omega)
    generalize pickF v 3 = x at *
    have c0 := hW.1 3 _ rfl
    have f0 := hW.2 3 (by rw [wl_len]; decide)
    have hok : Hid (Cfg.OK { k.c with points := 1 + x }) := ⟨hc1, hc2, hc3, hc4, hc5, (by simp only; omega), (by simp only; omega), hc8, hc9, hc10, hc11, hc12⟩
    have HW := Hid.mk (hW.set 3 (.int .i64 (1 + x)))
    clear h hW
    go_enter Tryz.func71, Tryz.ntmps71
    go_wp2_with fail
    refine (hpk _).mono ?_
    rintro e w' ⟨rfl, rfl⟩
    go_wp2
    go_end0
    exact ⟨rfl, _, HI.out.setW (c' := { k.c with points := 1 + x }) (part' := k.part) ((But.refl _ _).set (by simp) _) HW.out hok.out HI.out.isz, hR⟩
  · have hpk := fun wx => pick_is v 5 wx hv (by omega) (by omega)
    obtain ⟨hx1, hx2⟩ := pickF_range v 5 (by omega)
    generalize pickF v 5 = x at *
    have c0 := hW.1 4 _ rfl
    have f0 := hW.2 4 (by rw [wl_len]; decide)
    have hok : Hid (Cfg.OK { k.c with probes := 1 + x }) := ⟨hc1, hc2, hc3, hc4, hc5, hc6, hc7, (by simp only; omega), (by simp only; omega), hc10, hc11, hc12⟩
    have HW := Hid.mk (hW.set 4 (.int .i64 (1 + x)))
    clear h hW
    go_enter Tryz.func71, Tryz.ntmps71
    go_wp2_with fail
    refine (hpk _).mono ?_
    rintro e w' ⟨rfl, rfl⟩
    go_wp2
    go_end0
    exact ⟨rfl, _, HI.out.setW (c' := { k.c with probes := 1 + x }) (part' := k.part) ((But.refl _ _).set (by simp) _) HW.out hok.out HI.out.isz, hR⟩
  · have hpk := fun wx => pick_is v 3 wx hv (by omega) (by omega)
    obtain ⟨hx1, hx2⟩ := pickF_range v 3 (by omega)
    generalize pickF v 3 = x at *
    have c0 := hW.1 6 _ rfl
    have f0 := hW.2 6 (by rw [wl_len]; decide)
    have hok : Hid (Cfg.OK { k.c with formats := 1 + x }) := ⟨hc1, hc2, hc3, hc4, hc5, hc6, hc7, hc8, hc9, hc10, (by simp only; omega), (by simp only; omega)⟩
    have HW := Hid.mk (hW.set 6 (.int .i64 (1 + x)))
    clear h hW
    go_enter Tryz.func71, Tryz.ntmps71
    go_wp2_with fail
    refine (hpk _).mono ?_
    rintro e w' ⟨rfl, rfl⟩
    go_wp2
    go_end0
    exact ⟨rfl, _, HI.out.setW (c' := { k.c with formats := 1 + x }) (part' := k.part) ((But.refl _ _).set (by simp) _) HW.out hok.out HI.out.isz, hR⟩

theorem texts_open' {w : World} {v : Value} {L : List ByteArray} (h : RowAt w v L.length (L.map Value.string)) : ∃ ao cap, v = .slice ao L.length cap ∧ ∀ j (hj : j < L.length), ∃ g, ao = some ⟨g, 0, none⟩ ∧ w.cell? ⟨g, j, none⟩ = some (.string L[j]) := by
  rcases h with ⟨h1, h2, _⟩ | ⟨g, cap, hv, hn, hg, hc⟩
  · exact ⟨none, 0, by rw [h1, h2], fun j hj => by omega⟩
  · exact ⟨_, cap, hv, fun j hj => ⟨g, rfl, hc j _ (by simp [hj])⟩⟩

set_option maxRecDepth 100000 in
set_option maxHeartbeats 400000 in
theorem alike_is (X Y : List ByteArray) (vx vy : Value) (w : World) (hx : RowAt w vx X.length (X.map Value.string)) (hy : RowAt w vy Y.length (Y.map Value.string)) (hl : X.length ≤ 65536) (hl2 : Y.length ≤ 65536) :
    Calls Tryz.prog 133 #[vx, vy] w (RBool w (IsB (X = Y))) := by
  obtain ⟨ax, cx, rfl, hcx⟩ := texts_open' hx
  obtain ⟨ay, cy, rfl, hcy⟩ := texts_open' hy
  obtain ⟨Pr, hPr⟩ : ∃ Pr : Prop, Pr = (X = Y) := ⟨_, rfl⟩
  rw [← hPr]
  have HPr := Hid.mk hPr
  clear hPr hx hy
  by_cases hlen : X.length = Y.length
  rotate_left
  · have hlb : ((X.length : Int) != (Y.length : Int)) = true := by rw [bne_iff_ne]; omega
    clear hcx hcy
    go_enter Tryz.func133, Tryz.ntmps133
    go_wp2
    go_ret
    exact ⟨_, rfl, Bel.refl _, ⟨fun h => (by cases h), fun h => (by rw [HPr.out] at h; exact absurd (congrArg List.length h) hlen)⟩⟩
  have hlb : ((X.length : Int) != (Y.length : Int)) = false := by rw [bne_eq_false_iff_eq]; omega
  have HL := Hid.mk hlen
  clear hlen
  go_enter Tryz.func133, Tryz.ntmps133
  go_wp2
  go_loopg [5] X.length (fun r n wr => Bel w wr ∧ ∃ k : Nat, r = X.length - k ∧ k ≤ X.length ∧ n = .int .i64 k ∧ ∀ j (h1 : j < X.length) (h2 : j < Y.length), j < k → X[j] = Y[j])
  case atStart => exact ⟨Bel.refl _, 0, by omega, by omega, rfl, fun j _ _ h => by omega⟩
  case round =>
    obtain ⟨hb, k, hr, hk, rfl, hall⟩ := hrel
    have HA := Hid.mk hall
    clear hall
    by_cases hlt : k < X.length
    · have hlt2 : k < Y.length := by have := HL.out; omega
      obtain ⟨gx, rfl, x0⟩ := hcx k hlt
      obtain ⟨gy, rfl, y0⟩ := hcy k hlt2
      have x0' := hb.cell x0
      have y0' := hb.cell y0
      clear hcx hcy x0 y0
      have hstep : Hid (X[k] = Y[k] → ∀ j (h1 : j < X.length) (h2 : j < Y.length), j < k + 1 → X[j] = Y[j]) := fun e j h1 h2 hj => by
        by_cases he : j = k
        · subst he; exact e
        · exact HA.out j h1 h2 (by omega)
      have hno : Hid (X[k] ≠ Y[k] → ¬ Pr) := fun h hp => by
        rw [HPr.out] at hp
        subst hp
        exact h rfl
      have HE : Hid (((X[k].toList == Y[k].toList) = true) ↔ X[k] = Y[k]) := str_eq
      generalize X[k] = xk at *
      generalize Y[k] = yk at *
      cases heq : xk.toList == yk.toList
      · have hbad := Hid.mk (hno.out (fun e => by rw [HE.out.2 e] at heq; cases heq))
        go_wp2_with fail
        go_quiet (fail)
        go_wp2
        go_ret
        exact ⟨_, rfl, by (repeat (first | exact Bel.refl _ | assumption | refine Bel.step_alloc ?_ _ | refine Bel.step_drew ?_ | refine Bel.step_drewN ?_ _ | refine Bel.step_set ?_ (by simp <;> omega) _ | refine Bel.trans ?_ (by assumption))), ⟨fun h => (by cases h), fun h => absurd h hbad.out⟩⟩
      · have hgood := Hid.mk (hstep.out (HE.out.1 heq))
        go_wp2_with fail
        go_quiet (fail)
        go_wp2
        go_roundg (X.length - (k + 1))
        case measure => omega
        case rel => exact ⟨by (repeat (first | exact Bel.refl _ | assumption | refine Bel.step_alloc ?_ _ | refine Bel.step_drew ?_ | refine Bel.step_drewN ?_ _ | refine Bel.step_set ?_ (by simp <;> omega) _ | refine Bel.trans ?_ (by assumption))), k + 1, rfl, by omega, by go_num, hgood.out⟩
    · have hfin : Hid Pr := by
        show Pr
        rw [HPr.out]
        exact List.ext_getElem HL.out (fun j h1 h2 => HA.out j h1 h2 (by omega))
      clear hcx hcy
      go_wp2
      go_ret
      exact ⟨_, rfl, hb, ⟨fun _ => hfin.out, fun _ => rfl⟩⟩

end Go.Proofs.YtpapdkhjdelfcabGreat
