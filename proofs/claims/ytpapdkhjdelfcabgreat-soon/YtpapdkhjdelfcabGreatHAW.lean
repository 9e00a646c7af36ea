import Derived.Test.YtpapdkhjdelfcabGreatHAU
import Derived.Test.YtpapdkhjdelfcabGreatHAV
import Derived.Laws.StructEq
import Derived.Test.YtpapdkhjdelfcabGreatHAJ
set_option maxRecDepth 100000
set_option maxHeartbeats 4000000
namespace Go.Proofs.YtpapdkhjdelfcabGreat
open Go.RowKit
def sumF (g:Nat) (c:Cfg) (B:List BK) (E:List EI):BitVec 32:=crcB (packB (bodyB 1 g c B E))
def RSumF (w:World) (x:BitVec 32) (e:Ending) (w':World):Prop:=e= .returned (.int .u32 (x.toNat:Int))∧Bel w w'
theorem sumof_is (f g:Nat) (c:Cfg) (B:List BK) (E:List EI) (vP vE:Value) (w:World) (hg:g≤4611686018427387904) (hc:c.TOK) (hP:PoolAt w vP B) (hB:PoolOK B) (hE:EIAt w vE E) (hok:∀e∈E,EntOK e) (hlen:E.length≤65536):
  Calls Tryz.prog 197 #[imgV f g c vP vE] w (RSumF w (sumF g c B E)):=by
 have hbo:=fun wx h1 h2=>body_is 1 g c B E vP vE wx (by omega) hg hc h1 hB h2 hok hlen
 have hle:=packB_body_le (f:=1) (g:=g) (E:=E) hc.2.2.2.2.2.2.2.2.2 hB hlen;have hse:=fun wx=>crc_is (txt (packB (bodyB 1 g c B E))) wx (by simp [txt,ByteArray.size];omega)
 rw [txt_list] at hse;unfold sumF;generalize packB (bodyB 1 g c B E)=PB at *;have HP:=Hid.mk hP;have HE:=Hid.mk (EOff.of hE);unfold tabV at hbo;unfold imgV;obtain ⟨alg,slots,points,probes,key,formats⟩:=c;simp only at *;clear hc hP hE hB hok;go_enter Tryz.func197,Tryz.ntmps197;go_wp2_with fail;refine (hbo _ (HP.out.later (by (repeat (first|exact Bel.refl _|assumption|refine Bel.step_alloc ?_ _|refine Bel.step_drew ?_|refine Bel.step_drewN ?_ _|refine Bel.step_set ?_ (by simp <;>omega) _|refine Bel.trans ?_ (by assumption))))) (HE.out.later (by (repeat (first|exact Bel.refl _|assumption|refine Bel.step_alloc ?_ _|refine Bel.step_drew ?_|refine Bel.step_drewN ?_ _|refine Bel.step_set ?_ (by simp <;>omega) _|refine Bel.trans ?_ (by assumption)))))).mono ?_;rintro e w1 ⟨rfl,hb1⟩;have HB1:Hid (Bel w w1):=((Bel.refl w).step_alloc _).trans hb1;clear hb1;go_wp2_with fail;refine (hse _).mono ?_;rintro e w2 ⟨rfl,rfl⟩;go_wp2;go_ret;exact ⟨rfl,HB1.out⟩
theorem Tryz.uTE:Tryz.prog.underlying 116=some (.struct (Tryz.prog.fieldsOf 116)):=by kernel_rfl
theorem Tryz.sTE:Tryz.prog.stoodInHeld 116=false:=by kernel_rfl
theorem eql_ent (w:World) (a b u v:Int):(binOp .eql 116 (.agg #[.int .u64 a,.int .i64 b]) (.agg #[.int .u64 u,.int .i64 v])).run Tryz.prog w= .ok (.bool (a==u && b==v)) w:=by
 rw [run_eql_struct,run_equalIn_struct w 9999 _ _ _ Tryz.uTE Tryz.sTE];simp [go_sem];by_cases h1:a=u <;>by_cases h2:b=v <;>simp [h1,h2]
def preN:List EI→List EI→Nat
 |x::a,y::b=>if x=y then preN a b+1 else 0
 |_,_=>0
theorem preN_eq:∀(k:Nat) (a b:List EI) (_:k≤a.length) (_:k≤b.length),(∀i (h1:i<a.length) (h2:i<b.length),i<k→a[i]=b[i])→(∀(h1:k<a.length) (h2:k<b.length),a[k]≠b[k])→preN a b=k:=by
 intro k
 induction k with
 |zero=>
  intro a b ha hb _ hne
  match a,b with
  |[],_=>rfl
  |_::_,[]=>rfl
  |x::a,y::b=>
   have h0:x≠y:=hne (by simp) (by simp);rw [preN,if_neg h0]
 |succ k ih=>
  intro a b ha hb hall hne
  match a,b with
  |[],_=>simp at ha
  |_::_,[]=>simp at hb
  |x::a,y::b=>
   have h0:x=y:=hall 0 (by simp) (by simp) (by omega);rw [preN,if_pos h0,ih a b (by simpa using ha) (by simpa using hb) (fun i h1 h2 hi=>hall (i+1) (by simpa using h1) (by simpa using h2) (by omega)) (fun h1 h2=>hne (by simpa using h1) (by simpa using h2))]
theorem ahead_is (A B:List EI) (vA vB:Value) (w:World) (hA:EOff w vA A) (hB:EOff w vB B) (hAl:A.length≤65536) (hBl:B.length≤65536):
  Calls Tryz.prog 198 #[vA,vB] w (RNat w (preN A B)):=by
 obtain ⟨aA,capA,rfl,hcA⟩:=hA;obtain ⟨aB,capB,rfl,hcB⟩:=hB;go_enter Tryz.func198,Tryz.ntmps198;go_wp2;go_loopg [5] A.length (fun r n wr=>Bel w wr∧∃k:Nat,r=A.length - k∧n= .int .i64 k∧k≤A.length∧k≤B.length∧∀i (h1:i<A.length) (h2:i<B.length),i<k→A[i]=B[i])
 case atStart=>exact ⟨Bel.refl _,0,by omega,rfl,by omega,by omega,fun i _ _ h=>by omega⟩
 case round=>
  obtain ⟨hb,k,hr,rfl,hkA,hkB,hall⟩:=hrel;have HA:=Hid.mk hall;clear hall;by_cases h1:k<A.length
  ·by_cases h2:k<B.length
   ·obtain ⟨ga,oa,rfl,a0,a1⟩:=hcA k h1;obtain ⟨gb,ob,rfl,b0,b1⟩:=hcB k h2;have a0':=hb.cell a0;have a1':=hb.cell a1;have b0':=hb.cell b0;have b1':=hb.cell b1
    have HY:Hid (A[k]=B[k]→∀i (h1:i<A.length) (h2:i<B.length),i<k+1→A[i]=B[i]):=fun h0 i h1 h2 hi=>by
     by_cases hik:i=k
     ·subst hik;exact h0
     ·exact HA.out i h1 h2 (by omega)
    have HN:Hid (A[k]≠B[k]→preN A B=k):=fun h0=>preN_eq k A B hkA hkB HA.out (fun _ _=>h0)
    have hdA:decide ((k:Int)<A.length)=true:=decide_eq_true (by omega);have hdB:decide ((k:Int)<B.length)=true:=decide_eq_true (by omega);clear hcA hcB a0 a1 b0 b1 HA;have HEQ:Hid (A[k]=B[k]↔A[k].1=B[k].1∧A[k].2=B[k].2):=Prod.ext_iff;generalize A[k]=ea at *;generalize B[k]=eb at *;obtain ⟨p1,q1⟩:=ea;obtain ⟨p2,q2⟩:=eb;simp only at a0' a1' b0' b1' HEQ;have heqE:=eql_ent;cases hx:(p1==p2 && q1==q2)
    ·have HNE : Hid (preN A B = k) := HN.out (fun e => by
       have := HEQ.out.1 e
       rw [this.1, this.2] at hx
       simp at hx)
     go_wp2_with fail
     go_quiet (fail)
     go_wp2
     go_ret
     exact ⟨ret_int (by rw [HNE.out]),by (repeat (first|exact Bel.refl _|assumption|refine Bel.step_alloc ?_ _|refine Bel.step_drew ?_|refine Bel.step_drewN ?_ _|refine Bel.step_set ?_ (by simp <;>omega) _|refine Bel.trans ?_ (by assumption)))⟩
    ·have HY2:=Hid.mk (HY.out (HEQ.out.2 (by simpa using hx)));go_wp2_with fail;go_quiet (fail);go_wp2_with fail;go_roundg (A.length - (k+1))
     case measure=>omega
     case rel=>exact ⟨by (repeat (first|exact Bel.refl _|assumption|refine Bel.step_alloc ?_ _|refine Bel.step_drew ?_|refine Bel.step_drewN ?_ _|refine Bel.step_set ?_ (by simp <;>omega) _|refine Bel.trans ?_ (by assumption))),k+1,rfl,by go_num,by omega,by omega,HY2.out⟩
   ·have hdA:decide ((k:Int)<A.length)=true:=decide_eq_true (by omega);have hdB:decide ((k:Int)<B.length)=false:=decide_eq_false (by omega);have HNE:Hid (preN A B=k):=preN_eq k A B hkA hkB HA.out (fun _ h=>absurd h h2);clear hcA hcB HA;go_wp2_with fail;go_quiet (fail);go_wp2;go_ret;exact ⟨ret_int (by rw [HNE.out]),by (repeat (first|exact Bel.refl _|assumption|refine Bel.step_alloc ?_ _|refine Bel.step_drew ?_|refine Bel.step_drewN ?_ _|refine Bel.step_set ?_ (by simp <;>omega) _|refine Bel.trans ?_ (by assumption)))⟩
  ·have hdA:decide ((k:Int)<A.length)=false:=decide_eq_false (by omega);have HNE:Hid (preN A B=k):=preN_eq k A B hkA hkB HA.out (fun h _=>absurd h h1);clear hcA hcB HA;go_wp2_with fail;go_quiet (fail);go_wp2;go_ret;exact ⟨ret_int (by rw [HNE.out]),by (repeat (first|exact Bel.refl _|assumption|refine Bel.step_alloc ?_ _|refine Bel.step_drew ?_|refine Bel.step_drewN ?_ _|refine Bel.step_set ?_ (by simp <;>omega) _|refine Bel.trans ?_ (by assumption)))⟩
def sufN (a b:List EI):Nat:=preN a.reverse b.reverse
theorem sufN_eq (k:Nat) (a b:List EI) (ha:k≤a.length) (hb:k≤b.length) (h:∀i (h1:i<a.length) (h2:i<b.length),i<k→a[a.length - 1 - i]=b[b.length - 1 - i]) (hne:∀(h1:k<a.length) (h2:k<b.length),a[a.length - 1 - k]≠b[b.length - 1 - k]):sufN a b=k:=by
 refine preN_eq k _ _ (by simpa using ha) (by simpa using hb) (fun i h1 h2 hi=>?_) (fun h1 h2=>?_)
 ·rw [List.getElem_reverse,List.getElem_reverse];exact h i (by simpa using h1) (by simpa using h2) hi
 ·rw [List.getElem_reverse,List.getElem_reverse];exact hne (by simpa using h1) (by simpa using h2)
theorem behind2_is (A B:List EI) (vA vB:Value) (w:World) (hA:EOff w vA A) (hB:EOff w vB B) (hAl:A.length≤65536) (hBl:B.length≤65536):
  Calls Tryz.prog 199 #[vA,vB] w (RNat w (sufN A B)):=by
 obtain ⟨aA,capA,rfl,hcA⟩:=hA;obtain ⟨aB,capB,rfl,hcB⟩:=hB;go_enter Tryz.func199,Tryz.ntmps199;go_wp2;go_loopg [5] A.length (fun r n wr=>Bel w wr∧∃k:Nat,r=A.length - k∧n= .int .i64 k∧k≤A.length∧k≤B.length∧∀i (h1:i<A.length) (h2:i<B.length),i<k→A[A.length - 1 - i]=B[B.length - 1 - i])
 case atStart=>exact ⟨Bel.refl _,0,by omega,rfl,by omega,by omega,fun i _ _ h=>by omega⟩
 case round=>
  obtain ⟨hb,k,hr,rfl,hkA,hkB,hall⟩:=hrel;have HA:=Hid.mk hall;clear hall;by_cases h1:k<A.length
  ·by_cases h2:k<B.length
   ·obtain ⟨ga,oa,rfl,a0,a1⟩:=hcA (A.length - 1 - k) (by omega);obtain ⟨gb,ob,rfl,b0,b1⟩:=hcB (B.length - 1 - k) (by omega);have a0':=hb.cell a0;have a1':=hb.cell a1;have b0':=hb.cell b0;have b1':=hb.cell b1
    have HY:Hid (A[A.length - 1 - k]=B[B.length - 1 - k]→∀i (h1:i<A.length) (h2:i<B.length),i<k+1→A[A.length - 1 - i]=B[B.length - 1 - i]):=fun h0 i h1 h2 hi=>by
     by_cases hik:i=k
     ·subst hik;exact h0
     ·exact HA.out i h1 h2 (by omega)
    have HN:Hid (A[A.length - 1 - k]≠B[B.length - 1 - k]→sufN A B=k):=fun h0=>sufN_eq k A B hkA hkB HA.out (fun _ _=>h0)
    have hdA:decide ((k:Int)<A.length)=true:=decide_eq_true (by omega);have hdB:decide ((k:Int)<B.length)=true:=decide_eq_true (by omega);clear hcA hcB a0 a1 b0 b1 HA;have HEQ:Hid (A[A.length - 1 - k]=B[B.length - 1 - k]↔A[A.length - 1 - k].1=B[B.length - 1 - k].1∧A[A.length - 1 - k].2=B[B.length - 1 - k].2):=Prod.ext_iff;generalize A[A.length - 1 - k]=ea at *;generalize B[B.length - 1 - k]=eb at *;obtain ⟨p1,q1⟩:=ea;obtain ⟨p2,q2⟩:=eb;simp only at a0' a1' b0' b1' HEQ;have heqE:=eql_ent;have u1:(A.length:Int) - 1 - (k:Int)=((A.length - 1 - k:Nat):Int):=by omega
    have u2:(B.length:Int) - 1 - (k:Int)=((B.length - 1 - k:Nat):Int):=by omega
    have w1:IntKind.i64.wrap ((A.length:Int) - 1)=(A.length:Int) - 1:=by rw [IntKind.wrap_i64];omega
    have w2:IntKind.i64.wrap ((B.length:Int) - 1)=(B.length:Int) - 1:=by rw [IntKind.wrap_i64];omega
    have w3:IntKind.i64.wrap ((A.length:Int) - 1 - (k:Int))=((A.length - 1 - k:Nat):Int):=by rw [u1,IntKind.wrap_i64];omega
    have w4:IntKind.i64.wrap ((B.length:Int) - 1 - (k:Int))=((B.length - 1 - k:Nat):Int):=by rw [u2,IntKind.wrap_i64];omega
    have i1:A.length - 1 - k<A.length:=by omega
    have i2:B.length - 1 - k<B.length:=by omega
    generalize A.length - 1 - k=ka at *;generalize B.length - 1 - k=kb at *;clear u1 u2;cases hx:(p1==p2 && q1==q2)
    ·have HNE : Hid (sufN A B = k) := HN.out (fun e => by
       have := HEQ.out.1 e
       rw [this.1, this.2] at hx
       simp at hx)
     go_wp2_with fail
     go_quiet (fail)
     go_wp2
     go_ret
     exact ⟨ret_int (by rw [HNE.out]),by (repeat (first|exact Bel.refl _|assumption|refine Bel.step_alloc ?_ _|refine Bel.step_drew ?_|refine Bel.step_drewN ?_ _|refine Bel.step_set ?_ (by simp <;>omega) _|refine Bel.trans ?_ (by assumption)))⟩
    ·have HY2:=Hid.mk (HY.out (HEQ.out.2 (by simpa using hx)));go_wp2_with fail;go_quiet (fail);go_wp2_with fail;go_roundg (A.length - (k+1))
     case measure=>omega
     case rel=>exact ⟨by (repeat (first|exact Bel.refl _|assumption|refine Bel.step_alloc ?_ _|refine Bel.step_drew ?_|refine Bel.step_drewN ?_ _|refine Bel.step_set ?_ (by simp <;>omega) _|refine Bel.trans ?_ (by assumption))),k+1,rfl,by go_num,by omega,by omega,HY2.out⟩
   ·have hdA:decide ((k:Int)<A.length)=true:=decide_eq_true (by omega);have hdB:decide ((k:Int)<B.length)=false:=decide_eq_false (by omega);have HNE:Hid (sufN A B=k):=sufN_eq k A B hkA hkB HA.out (fun _ h=>absurd h h2);clear hcA hcB HA;go_wp2_with fail;go_quiet (fail);go_wp2;go_ret;exact ⟨ret_int (by rw [HNE.out]),by (repeat (first|exact Bel.refl _|assumption|refine Bel.step_alloc ?_ _|refine Bel.step_drew ?_|refine Bel.step_drewN ?_ _|refine Bel.step_set ?_ (by simp <;>omega) _|refine Bel.trans ?_ (by assumption)))⟩
  ·have hdA:decide ((k:Int)<A.length)=false:=decide_eq_false (by omega);have HNE:Hid (sufN A B=k):=sufN_eq k A B hkA hkB HA.out (fun h _=>absurd h h1);clear hcA hcB HA;go_wp2_with fail;go_quiet (fail);go_wp2;go_ret;exact ⟨ret_int (by rw [HNE.out]),by (repeat (first|exact Bel.refl _|assumption|refine Bel.step_alloc ?_ _|refine Bel.step_drew ?_|refine Bel.step_drewN ?_ _|refine Bel.step_set ?_ (by simp <;>omega) _|refine Bel.trans ?_ (by assumption)))⟩
end Go.Proofs.YtpapdkhjdelfcabGreat
namespace Go.Proofs.YtpapdkhjdelfcabGreat
open Go.RowKit
theorem take_step (O:List EI) (k a:Nat) (h:k<O.length):(O.take (k+1)).take a=if k<a then (O.take k).take a++[O[k]] else (O.take k).take a:=by
 rw [List.take_take,List.take_take];split
 ·rename_i h1;rw [Nat.min_eq_right (by omega),Nat.min_eq_right (by omega),List.take_succ_eq_append_getElem h]
 ·rename_i h1;rw [Nat.min_eq_left (by omega),Nat.min_eq_left (by omega)]
theorem drop_step (O:List EI) (k d:Nat) (h:k<O.length):(O.take (k+1)).drop d=if d≤k then (O.take k).drop d++[O[k]] else (O.take k).drop d:=by
 rw [List.take_succ_eq_append_getElem h];have hl:(O.take k).length=k:=by rw [List.length_take];omega
 split
 ·rename_i h1;rw [List.drop_append_of_le_length (by omega)]
 ·rename_i h1;rw [List.drop_of_length_le (by simp;omega),List.drop_of_length_le (by omega)]
def ctF (ah bh:Nat) (M O:List EI):List EI:=(O.take ah++M)++O.drop (O.length - bh)
theorem cturned_is (q ah bh:Nat) (vM vO:Value) (M O:List EI) (w:World) (c4:w.cell? ⟨q,4,none⟩=some (.int .i64 (ah:Int))) (c5:w.cell? ⟨q,5,none⟩=some (.int .i64 (bh:Int))) (c6:w.cell? ⟨q,6,none⟩=some vM) (hM:EIAt w vM M) (hO:EIAt w vO O) (hlM:M.length≤65536) (hlO:O.length≤65536) (ha:ah≤65536) (hbh:bh≤65536):
  Calls Tryz.prog 202 #[.pointer (some ⟨q,0,none⟩),vO] w (REnts w (ctF ah bh M O)):=by
 obtain ⟨i0,hi,hz0,hz1,hz2⟩:=info_parts Tryz.infoEI;obtain ⟨aO,capO,rfl,hcO⟩:=hO.open;have HM:=Hid.mk hM.src;clear hM hO;go_enter Tryz.func202,Tryz.ntmps202;go_wp2;go_loopg [5,12] O.length (fun r u n wr=>Bel w wr∧∃(k:Nat) (v:Value),v=u∧r=O.length - k∧k≤O.length∧n= .int .i64 k∧OwnE w.heap.size wr v ((O.take k).take ah))
 case atStart=>exact ⟨Bel.refl _,0,_,rfl,by omega,by omega,rfl,by simpa [OwnE,icells] using World.ownsRow_nil w w.heap.size 116 2⟩
 case round=>
  obtain ⟨hb,k,v,rfl,hr,hk,rfl,hL⟩:=hrel;have hwr:=hb.size;have hLl:((O.take k).take ah).length≤200000:=by rw [List.length_take];have:=List.length_take_le' k O;omega
  have HO:=Hid.mk hL;have s4:=hb.cell c4;have s5:=hb.cell c5;have s6:=hb.cell c6;clear hL;by_cases hlt:k<O.length
  ·obtain ⟨g,rfl,e0,e1⟩:=hcO k hlt;have e0':=hb.cell e0;have e1':=hb.cell e1;have HS:Hid ((O.take (k+1)).take ah=if k<ah then (O.take k).take ah++[O[k]] else (O.take k).take ah):=take_step O k ah hlt;clear hcO e0 e1;generalize O[k]=ek at *;obtain ⟨pt,ow⟩:=ek;simp only at e0' e1';generalize (O.take k).take ah=L at *;have hqn:q≠wr.heap.size:=by have:=World.block_lt_of_cell? wr _ s4;simp only at this;omega
   have hql:q<wr.heap.size:=World.block_lt_of_cell? wr _ s4;by_cases hc1:k<ah
   ·rw [if_pos hc1] at HS;have hcb:decide ((k:Int)<(ah:Int))=true:=decide_eq_true (by omega);go_wp2_with (first|(at_builtin;refine wpList_append_own _ rfl _ _ 64 rfl w.heap.size 116 i0 (.agg #[.int .u64 0,.int .i64 0]) 2 16 Tryz.underlying64 hi hz0 hz1 hz2 rfl (by decide) _ L.length (icells L) rfl ?p1a ⟨wr.heap.size+1,0,none⟩ 1 1 [.int .u64 pt,.int .i64 ow] rfl rfl ?da1 ?da2 ?da3 ?da4 ?da5 ?_))
    case p1a=>exact (World.ownsRow.alloc (World.ownsRow.alloc HO.out _) _)
    try (case da1=>exact two_new _ _ _ _ _ (by simp))
    case da2=>first|exact ⟨rfl,rfl⟩|exact two_one rfl rfl|(intro u hu;simp at hu;rcases hu with rfl|rfl <;>rfl)
    case da3=>unfold maxLen;omega
    case da4=>omega
    case da5=>first|omega|(simp;omega)
    intro v5 w5 hown5 hgrow5 _;have hb5:Bel w w5:=((hb.step_alloc _).step_alloc _).grown hgrow5 (fun g hg=>(World.ownsRow.lt HO.out g hg).1);have HO5:Hid (OwnE w.heap.size w5 v5 (L++[(pt,ow)])):=OwnE.snoc (b:=(pt,ow)) hown5 rfl;clear hown5 hgrow5;go_wp2;go_roundg (O.length - (k+1))
    case measure=>omega
    case rel=>exact ⟨hb5,k+1,_,rfl,rfl,by omega,by go_num,by rw [HS.out];exact HO5.out⟩
   ·rw [if_neg hc1] at HS;have hcb:decide ((k:Int)<(ah:Int))=false:=decide_eq_false (by omega);go_wp2;go_roundg (O.length - (k+1))
    case measure=>omega
    case rel=>exact ⟨hb.step_alloc _,k+1,_,rfl,rfl,by omega,by go_num,by rw [HS.out];exact World.ownsRow.alloc HO.out _⟩
  ·have hkO:k=O.length:=by omega
   have hte:O.take k=O:=List.take_of_length_le (by omega);rw [hte] at HO hLl;clear hte hkO;go_wp2_with (first|(at_builtin;refine wpList_append_src _ rfl _ _ 64 rfl w.heap.size 116 i0 (.agg #[.int .u64 0,.int .i64 0]) 2 16 Tryz.underlying64 hi hz0 hz1 hz2 rfl (by decide) v (O.take ah).length (icells (O.take ah)) rfl HO.out vM M.length (icells M) rfl ?o2 ?c1 ?c2 ?c3 ?c4 ?c5 ?_))
   case o2=>exact HM.out.later hb
   case c1=>exact icells_len M
   case c2=>exact icells_one M
   case c3=>unfold maxLen;omega
   case c4=>omega
   case c5=>exact hwr
   intro v7 w7 hown7 hgrow7;have hb7:Bel w w7:=hb.grown hgrow7 (fun g hg=>(World.ownsRow.lt HO.out g hg).1)
   have HO7:Hid (OwnE w.heap.size w7 v7 (O.take ah++M)):=by
    show w7.ownsRow _ _ _ _ _ _;have e:icells (O.take ah++M)=icells (O.take ah)++icells M:=by simp [icells]
    rw [e,List.length_append,List.length_take];exact hown7
   have hL7:(O.take ah++M).length≤131072:=by rw [List.length_append];have:=List.length_take_le' ah O;omega
   clear hown7 hgrow7 HO hb s4 s5 s6 hLl hr hwr;go_wp2_with fail;go_loopg [5,36] O.length (fun r u n wr=>Bel w wr∧∃(k:Nat) (v:Value),v=u∧r=O.length - k∧k≤O.length∧n= .int .i64 k∧OwnE w.heap.size wr v ((O.take ah++M)++(O.take k).drop (O.length - bh)))
   case atStart=>exact ⟨hb7,0,_,rfl,by omega,by omega,rfl,by simpa using HO7.out⟩
   case round=>
    obtain ⟨hb,k,v,rfl,hr,hk,rfl,hL⟩:=hrel;have hwr:=hb.size;have hLl:((O.take ah++M)++(O.take k).drop (O.length - bh)).length≤200000:=by rw [List.length_append,List.length_drop];have:=List.length_take_le' k O;omega
    have HO:=Hid.mk hL;have s4:=hb.cell c4;have s5:=hb.cell c5;have s6:=hb.cell c6;clear hL;by_cases hlt:k<O.length
    ·obtain ⟨g,rfl,e0,e1⟩:=hcO k hlt;have e0':=hb.cell e0;have e1':=hb.cell e1;have HS:Hid ((O.take ah++M)++(O.take (k+1)).drop (O.length - bh)=if O.length - bh≤k then (O.take ah++M)++(O.take k).drop (O.length - bh)++[O[k]] else (O.take ah++M)++(O.take k).drop (O.length - bh)):=by show _=_;rw [drop_step O k _ hlt];split <;>simp
     clear hcO e0 e1;generalize O[k]=ek at *;obtain ⟨pt,ow⟩:=ek;simp only at e0' e1';generalize (O.take ah++M)++(O.take k).drop (O.length - bh)=L at *;have hqn:q≠wr.heap.size:=by have:=World.block_lt_of_cell? wr _ s4;simp only at this;omega
     have hql:q<wr.heap.size:=World.block_lt_of_cell? wr _ s4;by_cases hc1:O.length - bh≤k
     ·rw [if_pos hc1] at HS;have hcb:decide ((O.length:Int) - (bh:Int)≤(k:Int))=true:=decide_eq_true (by omega);go_wp2_with (first|(at_builtin;refine wpList_append_own _ rfl _ _ 64 rfl w.heap.size 116 i0 (.agg #[.int .u64 0,.int .i64 0]) 2 16 Tryz.underlying64 hi hz0 hz1 hz2 rfl (by decide) _ L.length (icells L) rfl ?p1a ⟨wr.heap.size+1,0,none⟩ 1 1 [.int .u64 pt,.int .i64 ow] rfl rfl ?da1 ?da2 ?da3 ?da4 ?da5 ?_))
      case p1a=>exact (World.ownsRow.alloc (World.ownsRow.alloc HO.out _) _)
      try (case da1=>exact two_new _ _ _ _ _ (by simp))
      case da2=>first|exact ⟨rfl,rfl⟩|exact two_one rfl rfl|(intro u hu;simp at hu;rcases hu with rfl|rfl <;>rfl)
      case da3=>unfold maxLen;omega
      case da4=>omega
      case da5=>first|omega|(simp;omega)
      intro v5 w5 hown5 hgrow5 _;have hb5:Bel w w5:=((hb.step_alloc _).step_alloc _).grown hgrow5 (fun g hg=>(World.ownsRow.lt HO.out g hg).1);have HO5:Hid (OwnE w.heap.size w5 v5 (L++[(pt,ow)])):=OwnE.snoc (b:=(pt,ow)) hown5 rfl;clear hown5 hgrow5;go_wp2;go_roundg (O.length - (k+1))
      case measure=>omega
      case rel=>exact ⟨hb5,k+1,_,rfl,rfl,by omega,by go_num,by rw [HS.out];exact HO5.out⟩
     ·rw [if_neg hc1] at HS;have hcb:decide ((O.length:Int) - (bh:Int)≤(k:Int))=false:=decide_eq_false (by omega);go_wp2;go_roundg (O.length - (k+1))
      case measure=>omega
      case rel=>exact ⟨hb.step_alloc _,k+1,_,rfl,rfl,by omega,by go_num,by rw [HS.out];exact World.ownsRow.alloc HO.out _⟩
    ·have hkO:k=O.length:=by omega
     have hte:O.take k=O:=List.take_of_length_le (by omega);rw [hte] at HO hLl;clear hte hkO;clear hcO;go_wp2;go_ret;exact ⟨_,rfl,hb,by rw [ctF];exact HO.out⟩
end Go.Proofs.YtpapdkhjdelfcabGreat
namespace Go.Proofs.YtpapdkhjdelfcabGreat
open Go.RowKit
def chHd (b s g:Nat):List Bool:=((([]++bytesBits [67,80])++numBits b (8 * 4))++numBits s 32)++numBits g (8 * 4)
def chB (b s g:Nat) (B:List BK) (ah bh:Nat) (M:List EI) (alg:Int):List Bool:=((((chHd b s g++bksB B)++numBits ah (8 * 2))++numBits bh (8 * 2))++numBits M.length (8 * 2))++ensB (wpF alg) (woF 1 alg B.length) M
def chgV (b s g:Nat) (vP:Value) (ah bh:Nat) (vM:Value):Value:= .agg #[.int .i64 (b:Int),.int .u32 (s:Int),.int .i64 (g:Int),vP,.int .i64 (ah:Int),.int .i64 (bh:Int),vM]
def patchB (b s g:Nat) (B:List BK) (ah bh:Nat) (M:List EI) (alg:Int):List UInt8:=packB (chB b s g B ah bh M alg)++sumB (crcB (packB (chB b s g B ah bh M alg)))
theorem chHd_len (b s g:Nat):(chHd b s g).length=112:=by simp [chHd,numBits_len,bytesBits_len]
theorem chB_len {b s g:Nat} {B:List BK} {ah bh:Nat} {M:List EI} {alg:Int} (hB:PoolOK B) (hM:M.length≤65536):(chB b s g B ah bh M alg).length≤8389600:=by
 have h1:=chHd_len b s g;have h2:=bksB_len hB;have h3:M.length * (wpF alg+woF 1 alg B.length)≤65536 * 128:=Nat.mul_le_mul (by omega) (by have:=wpF_le alg;have:=woF_le 1 alg B.length;omega);simp only [chB,List.length_append,numBits_len,ensB_len,h1];omega
theorem writec_is (b s g:Nat) (B:List BK) (ah bh:Nat) (M:List EI) (alg:Int) (vP vM:Value) (w:World) (hb:b≤4611686018427387904) (hs:s<4294967296) (hg:g≤4611686018427387904) (hah:ah≤65536) (hbh:bh≤65536) (hP:PoolAt w vP B) (hB:PoolOK B) (hM:EOff w vM M) (hok:∀e∈M,EntOK e) (hlen:M.length≤65536):
  Calls Tryz.prog 200 #[chgV b s g vP ah bh vM,.int .i64 alg] w (RTx w (patchB b s g B ah bh M alg)):=by
 obtain ⟨aP,capP,rfl, -⟩:=hP.open;obtain ⟨aM,capM,rfl, -⟩:=id hM;have h8:=hB.1;have hbl:=chB_len (b:=b) (s:=s) (g:=g) (ah:=ah) (bh:=bh) (alg:=alg) hB hlen;have hhl:=chHd_len b s g;have hbk:=bksB_len hB;obtain ⟨XB,hXB⟩:∃X,X=chB b s g B ah bh M alg:=⟨_,rfl⟩;have HXB:=Hid.mk hXB;unfold patchB;rw [←hXB] at hbl ⊢;clear hXB;unfold chB chHd at HXB;unfold chHd at hhl;unfold chgV;obtain ⟨W0,hW0⟩:∃W0,W0=w.alloc (.cells #[.int .i64 (b:Int),.int .u32 (s:Int),.int .i64 (g:Int),.slice aP B.length capP,.int .i64 (ah:Int),.int .i64 (bh:Int),.slice aM M.length capM] 224):=⟨_,rfl⟩;have hsz:W0.heap.size=w.heap.size+1:=by rw [hW0];simp
 have hb0:Bel w W0:=by rw [hW0];exact (Bel.refl w).step_alloc _
 have q0:W0.cell? ⟨w.heap.size,0,none⟩=some (.int .i64 (b:Int)):=by rw [hW0];simp
 have q1:W0.cell? ⟨w.heap.size,1,none⟩=some (.int .u32 (s:Int)):=by rw [hW0];simp
 have q2:W0.cell? ⟨w.heap.size,2,none⟩=some (.int .i64 (g:Int)):=by rw [hW0];simp
 have q3:W0.cell? ⟨w.heap.size,3,none⟩=some (.slice aP B.length capP):=by rw [hW0];simp
 have q4:W0.cell? ⟨w.heap.size,4,none⟩=some (.int .i64 (ah:Int)):=by rw [hW0];simp
 have q5:W0.cell? ⟨w.heap.size,5,none⟩=some (.int .i64 (bh:Int)):=by rw [hW0];simp
 have q6:W0.cell? ⟨w.heap.size,6,none⟩=some (.slice aM M.length capM):=by rw [hW0];simp
 have HP:=Hid.mk (hP.later hb0);have HE:=Hid.mk (hM.later hb0);have HOK:=Hid.mk hok;have HPB:=Hid.mk hB;have hI0:=WrI.new W0 149;rw [hsz] at hI0;have H0:=Hid.mk (wtext_is W0 (w.heap.size+1) [] ⟨#[67,80]⟩ _ hI0 (by simp [ByteArray.size]));have hU:IntKind.u64.wrap (s:Int)=(s:Int):=by rw [IntKind.wrap_u64];omega
 clear hI0 hP hM hok hB;go_enter Tryz.func200,Tryz.ntmps200;go_wp2_with fail;rw [←hW0];refine H0.out.mono ?_;rintro e w1 ⟨rfl,hI⟩;clear H0;have H1:=Hid.mk (wint_is W0 (w.heap.size+1) _ b 4 _ hI (by simp [bytesBits_len]) (by omega) (by omega));have x0:=hI.1.cell q0;clear hI;go_wp2_with fail;refine H1.out.mono ?_;rintro e w2 ⟨rfl,hI⟩;clear H1 x0;have H2:=Hid.mk (wnum_is W0 (w.heap.size+1) _ s 32 _ hI (by simp [bytesBits_len,numBits_len]) (by omega) (by omega));have x1:=hI.1.cell q1;clear hI;go_wp2_with fail;refine H2.out.mono ?_;rintro e w3 ⟨rfl,hI⟩;clear H2 x1;have H3:=Hid.mk (wint_is W0 (w.heap.size+1) _ g 4 _ hI (by simp [bytesBits_len,numBits_len]) (by omega) (by omega));have x2:=hI.1.cell q2;clear hI;go_wp2_with fail;refine H3.out.mono ?_;rintro e w4 ⟨rfl,hI⟩;clear H3 x2;generalize hHD:((([]++bytesBits [67,80])++numBits b (8 * 4))++numBits s 32)++numBits g (8 * 4)=HD at *;clear hHD;have H8:=Hid.mk (putb_is W0 (w.heap.size+1) _ B _ _ hI HP.out HPB.out (by omega));have x8:=hI.1.cell q3;clear hI;go_wp2_with fail;refine H8.out.mono ?_;rintro e w9 ⟨rfl,hI⟩;clear H8 x8;have G0:=Hid.mk (wint_is W0 (w.heap.size+1) _ ah 2 _ hI (by simp only [List.length_append];omega) (by omega) (by omega));have y0:=hI.1.cell q4;clear hI;go_wp2_with fail;refine G0.out.mono ?_;rintro e x0 ⟨rfl,hI⟩;clear G0 y0;have G1:=Hid.mk (wint_is W0 (w.heap.size+1) _ bh 2 _ hI (by simp only [List.length_append,numBits_len];omega) (by omega) (by omega));have y1:=hI.1.cell q5;clear hI;go_wp2_with fail;refine G1.out.mono ?_;rintro e x1 ⟨rfl,hI⟩;clear G1 y1;have G2:=Hid.mk (wint_is W0 (w.heap.size+1) _ M.length 2 _ hI (by simp only [List.length_append,numBits_len];omega) (by omega) (by omega));have y2:=hI.1.cell q6;clear hI;go_wp2_with fail;refine G2.out.mono ?_;rintro e x2 ⟨rfl,hI⟩;clear G2 y2;have HI:=Hid.mk hI;have y3:=hI.1.cell q3;have y6:=hI.1.cell q6;have hwd:=fun wx=>widths_is 1 alg B.length wx h8
 unfold widV at hwd;have hwo:=woF_le 1 alg B.length;have hwp:=wpF_le alg;generalize wpF alg=wp at *;generalize woF 1 alg B.length=wo at *;have hpe:=fun wx hx=>pute_is (K:=fun _=>none) W0 (w.heap.size+1) ((((HD++bksB B)++numBits ah (8 * 2))++numBits bh (8 * 2))++numBits M.length (8 * 2)) wp wo M (.slice aM M.length capM) wx hx HE.out HOK.out hlen (by omega) (by omega) (by simp only [List.length_append,numBits_len];omega)
 clear hI;go_wp2_with fail
 go_region_with (first
   | (go_at_call 192
      refine (hwd _).mono ?_
      rintro e w11 ⟨rfl, hb11x⟩
      have hb11 : Bel x2 w11 := by first | exact hb11x | exact (Bel.step_drew (Bel.refl x2)).trans hb11x
      have HI11 := Hid.mk (HI.out.later hb11)
      have z3 := hb11.cell y3
      have z6 := hb11.cell y6
      clear hb11x hb11 hwd)
   | (go_at_call 214
      refine (hpe _ (by first | exact HI11.out | exact HI11.out.later (Bel.step_drew (Bel.refl _)))).mono ?_
      rintro e w12 ⟨rfl, hI12⟩
      have HI12 := Hid.mk hI12
      clear hI12 hpe))
 all_goals
  have hd:=wdone_is W0 (w.heap.size+1) _ _ HI12.out (by rw [←HXB.out];omega);rw [←HXB.out] at hd;have HD9:=Hid.mk hd;have hpl:(packB XB).length≤8389600:=Nat.le_trans (packB_len_le _ _ (Nat.le_refl _)) hbl;have hse:=fun wx=>sealed_is (txt (packB XB)) wx (by simp [txt,ByteArray.size];omega)
  rw [txt_list] at hse;clear hd;go_wp2_with fail;refine HD9.out.mono ?_;rintro e w13 ⟨rfl,hI13⟩;have HB13:=Hid.mk (hb0.trans hI13.1);clear hI13 HD9;generalize packB XB=PB at *;go_wp2_with fail;refine (hse _).mono ?_;rintro e w14 ⟨rfl,hb14⟩;have HB14:=Hid.mk (HB13.out.trans hb14);clear hb14;go_wp2;go_ret;exact ⟨rfl,HB14.out⟩
end Go.Proofs.YtpapdkhjdelfcabGreat
