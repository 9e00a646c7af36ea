import Derived.Test.YtpapdkhjdelfcabGreatLAO
import Derived.Laws.StructEq
namespace Go.Proofs.YtpapdkhjdelfcabGreat
open Go.RowKit
set_option maxRecDepth 100000
set_option maxHeartbeats 4000000
def CT (B B2:List BK) (e:EI):EI:=(e.1,Dr B2 (A7 B e.2))
def Xb (w:World) (L:List EI) (e:Ending) (w':World):Prop:=∃v,e= .returned v∧Aa w w'∧AS w.heap.size w' v L
theorem OX (q:Nat) (c:Ac) (vP vE v2:Value) (B B2:List BK) (E:List EI) (w:World) (hT:Hn w q c vP vE) (hP:Am w vP B) (hE:AR w vE E) (hP2:Am w v2 B2) (hB2:B2.length≤9) (hlen:E.length≤65536):
  Calls Tryz.prog 196 #[.pointer (some ⟨q,2,none⟩),v2] w (Xb w (E.map (CT B B2))):=by
 obtain ⟨i0,hi,hz0,hz1,hz2⟩:=info_parts Tryz.infoEI;have HT:=jp hT;have HP:=jp hP;have HP2:=jp hP2;obtain ⟨-, -,t9⟩:=hT;obtain ⟨aE,capE,rfl,hcE⟩:=hE.open;clear hP hP2;go_enter Tryz.func196,Tryz.ntmps196;go_wp2_with (first|(at_make;refine wpList_make_own _ rfl _ _ 64 rfl w.heap.size 116 i0 (.agg #[.int .u64 0,.int .i64 0]) 2 Tryz.underlying64 hi hz0 hz1 _ _ _ E.length rfl rfl ?b1 ?b2 ?b3 ?b4 ?_))
 case b1=>rfl
 case b2=>rw [hz2];omega
 case b3=>unfold maxLen;omega
 case b4=>exact jH _
 intro w1 hown1 hgrow1;have hb1:Aa w w1:=(jD _).grown hgrow1 (fun g hg=>by cases hg);have hown:AS w.heap.size w1 (.slice (some ⟨w.heap.size,0,none⟩) 0 E.length) []:=hown1;have s9:=hb1.cell t9;clear hgrow1 hown1;generalize (Value.slice (some ⟨w.heap.size,0,none⟩) 0 E.length)=v1 at *;go_wp2;go_loopg [5,20] E.length (fun r u n wr=>Aa w wr∧∃(k:Nat) (v:Value),v=u∧r=E.length - k∧k≤E.length∧n= .int .i64 k∧AS w.heap.size wr v ((E.take k).map (CT B B2)))
 case atStart=>exact ⟨hb1,0,_,rfl,by omega,by omega,rfl,by simpa using hown⟩
 case round=>
  obtain ⟨hb,k,v,rfl,hr,hk,rfl,hL⟩:=hrel;have hwr:=hb.size;have hLl:((E.take k).map (CT B B2)).length≤65536:=by rw [je];exact jX (List.length_take_le' _ _) hlen
  have HO:=jp hL;have hvn:Hid (v.ownBlock≠some wr.heap.size):=fun e=>by have:=(World.ownsRow.lt hL _ e).2;omega
  clear hb1 hown hL s9;by_cases hlt:k<E.length
  ·obtain ⟨g,rfl,c0,c1⟩:=hcE k hlt;have c0':=hb.cell c0;have c1':=hb.cell c1
   have HS:Hid ((E.take (k+1)).map (CT B B2)=(E.take k).map (CT B B2)++[(E[k].1,Dr B2 (A7 B E[k].2))]):=by
    show _=_;rw [jQ hlt,List.map_append];rfl
   have hnm:=fun wx h1 h2=>Pq q c vP (.slice (some ⟨g,0,none⟩) E.length capE) B E[k].2 wx h1 h2
   have hpl:=fun wx h=>J8 B2 v2 (A7 B E[k].2) wx h hB2
   clear hcE c0 c1;generalize A7 B E[k].2=nm at *;generalize E[k].1=pt at *;generalize E[k].2=ow at *;generalize (E.take k).map (CT B B2)=L at *;go_wp2_with fail;refine (hnm _ (HT.out.later (hb.step_alloc _)) (HP.out.later (hb.step_alloc _))).mono ?_;rintro e w2 ⟨rfl,hb2⟩;have X2:=(Ae.new wr 116 #[.int .u64 pt,.int .i64 ow]).bel hb2;have HBw2:=jp ((hb.step_alloc _).trans hb2);replace HO:=jp (CV (World.ownsRow.alloc HO.out (.cells #[.int .u64 pt,.int .i64 ow] 116)) hb2);have HX2:=jp X2;clear X2 hb2;go_wp2_with fail;refine (hpl _ (HP2.out.later HBw2.out)).mono ?_;rintro e w3 ⟨rfl,hb3⟩;have X3:=HX2.out.bel hb3;have HBw3:=jp (HBw2.out.trans hb3);replace HO:=jp (CV HO.out hb3);have x0:=X3.cell 0 rfl;have x1:=X3.cell 1 rfl;have f0:=X3.free 0;have f1:=X3.free 1;have hs3:=HBw3.out.size;have hs3b:=X3.lt;replace HO:=jp (ownsRow_setCell_other HO.out hvn.out (a:=⟨wr.heap.size,1,none⟩) (.int .i64 (Dr B2 nm)));have HBx:=jp (HBw3.out.step_set (p:=⟨wr.heap.size,1,none⟩) hwr (.int .i64 (Dr B2 nm)));clear X3 hb3 HX2 HBw2 HBw3 hnm hpl;go_wp2_with (first|(at_builtin;refine wpList_append_own _ rfl _ _ 64 rfl w.heap.size 116 i0 (.agg #[.int .u64 0,.int .i64 0]) 2 16 Tryz.underlying64 hi hz0 hz1 hz2 rfl (by decide) _ L.length (Bf L) rfl ?p1a ⟨w3.heap.size,0,none⟩ 1 1 [.int .u64 pt,.int .i64 (Dr B2 nm)] rfl rfl ?da1 ?da2 ?da3 ?da4 ?da5 ?_))
   case p1a=>exact World.ownsRow.alloc HO.out _
   try (case da1=>exact C8 _ _ _ _ _ (by simp))
   case da2=>first|exact ⟨rfl,rfl⟩|exact Df rfl rfl|(intro u hu;simp at hu;rcases hu with rfl|rfl <;>rfl)
   case da3=>unfold maxLen;omega
   case da4=>omega
   case da5=>first|omega|(simp;omega)
   intro v5 w5 hown5 hgrow5 _;have hb5:Aa w w5:=(HBx.out.step_alloc _).grown hgrow5 (fun g hg=>(World.ownsRow.lt HO.out g hg).1);have HO5:Hid (AS w.heap.size w5 v5 (L++[(pt,(Dr B2 nm))])):=AS.snoc (b:=(pt,(Dr B2 nm))) hown5 rfl;clear hown5 hgrow5;go_wp2;go_roundg (E.length - (k+1))
   case measure=>omega
   case rel=>exact ⟨hb5,k+1,_,rfl,rfl,by omega,by go_num,by rw [HS.out];exact HO5.out⟩
  ·have HE:Hid ((E.take k).map (CT B B2)=E.map (CT B B2)):=by rw [jR (by omega)];rfl
   clear hcE;go_wp2;go_ret;exact ⟨_,rfl,hb,by rw [←HE.out];exact HO.out⟩
def G9 (g:Nat) (c:Ac) (B:List BK) (E:List EI):BitVec 32:=CB (AK (DS 1 g c B E))
def KY (w:World) (x:BitVec 32) (e:Ending) (w':World):Prop:=e= .returned (.int .u32 (x.toNat:Int))∧Aa w w'
theorem On (f g:Nat) (c:Ac) (B:List BK) (E:List EI) (vP vE:Value) (w:World) (hg:g≤4611686018427387904) (hc:c.TOK) (hP:Am w vP B) (hB:AL B) (hE:AR w vE E) (hok:∀e∈E,Fp e) (hlen:E.length≤65536):
  Calls Tryz.prog 197 #[D8 f g c vP vE] w (KY w (G9 g c B E)):=by
 have hbo:=fun wx h1 h2=>M9 1 g c B E vP vE wx (by omega) hg hc h1 hB h2 hok hlen
 have hle:=Jb (f:=1) (g:=g) (E:=E) hc.2.2.2.2.2.2.2.2.2 hB hlen;have hse:=fun wx=>PU (Ai (AK (DS 1 g c B E))) wx (by simp [Ai,ByteArray.size];omega)
 rw [Fs] at hse;unfold G9;generalize AK (DS 1 g c B E)=PB at *;have HP:=jp hP;have HE:=jp (Bv.of hE);unfold DW at hbo;unfold D8;obtain ⟨alg,slots,points,probes,key,formats⟩:=c;simp only at *;clear hc hP hE hB hok;go_enter Tryz.func197,Tryz.ntmps197;go_wp2_with fail;refine (hbo _ (HP.out.later (by solve_by_elim [jA,jB,jC,jD,jE])) (HE.out.later (by solve_by_elim [jA,jB,jC,jD,jE]))).mono ?_;rintro e w1 ⟨rfl,hb1⟩;have HB1:Hid (Aa w w1):=((jD w).step_alloc _).trans hb1;clear hb1;go_wp2_with fail;refine (hse _).mono ?_;rintro e w2 ⟨rfl,rfl⟩;go_wp2;go_ret;exact ⟨rfl,HB1.out⟩
theorem Tryz.uTE:Tryz.prog.underlying 116=some (.struct (Tryz.prog.fieldsOf 116)):=by kernel_rfl
theorem Tryz.sTE:Tryz.prog.stoodInHeld 116=false:=by kernel_rfl
theorem NX (w:World) (a b u v:Int):(binOp .eql 116 (.agg #[.int .u64 a,.int .i64 b]) (.agg #[.int .u64 u,.int .i64 v])).run Tryz.prog w= .ok (.bool (a==u && b==v)) w:=by
 rw [run_eql_struct,run_equalIn_struct w 9999 _ _ _ Tryz.uTE Tryz.sTE];simp [go_sem];by_cases h1:a=u <;>by_cases h2:b=v <;>simp [h1,h2]
def Cu:List EI→List EI→Nat
 |x::a,y::b=>if x=y then Cu a b+1 else 0
 |_,_=>0
theorem JN:∀(k:Nat) (a b:List EI) (_:k≤a.length) (_:k≤b.length),(∀i (h1:i<a.length) (h2:i<b.length),i<k→a[i]=b[i])→(∀(h1:k<a.length) (h2:k<b.length),a[k]≠b[k])→Cu a b=k:=by
 intro k
 induction k with
 |zero=>
  intro a b ha hb _ hne
  match a,b with
  |[],_=>rfl
  |_::_,[]=>rfl
  |x::a,y::b=>
   have h0:x≠y:=hne (by simp) (by simp);rw [Cu,if_neg h0]
 |succ k ih=>
  intro a b ha hb hall hne
  match a,b with
  |[],_=>simp at ha
  |_::_,[]=>simp at hb
  |x::a,y::b=>
   have h0:x=y:=hall 0 (by simp) (by simp) (by omega);rw [Cu,if_pos h0,ih a b (by simpa using ha) (by simpa using hb) (fun i h1 h2 hi=>hall (i+1) (by simpa using h1) (by simpa using h2) (by omega)) (fun h1 h2=>hne (by simpa using h1) (by simpa using h2))]
theorem RB (A B:List EI) (vA vB:Value) (w:World) (hA:Bv w vA A) (hB:Bv w vB B) (hAl:A.length≤65536) (hBl:B.length≤65536):
  Calls Tryz.prog 198 #[vA,vB] w (D9 w (Cu A B)):=by
 obtain ⟨aA,capA,rfl,hcA⟩:=hA;obtain ⟨aB,capB,rfl,hcB⟩:=hB;go_enter Tryz.func198,Tryz.ntmps198;go_wp2;go_loopg [5] A.length (fun r n wr=>Aa w wr∧∃k:Nat,r=A.length - k∧n= .int .i64 k∧k≤A.length∧k≤B.length∧∀i (h1:i<A.length) (h2:i<B.length),i<k→A[i]=B[i])
 case atStart=>exact ⟨jD _,0,by omega,rfl,by omega,by omega,fun i _ _ h=>by omega⟩
 case round=>
  obtain ⟨hb,k,hr,rfl,hkA,hkB,hall⟩:=hrel;have HA:=jp hall;clear hall;by_cases h1:k<A.length
  ·by_cases h2:k<B.length
   ·obtain ⟨ga,oa,rfl,a0,a1⟩:=hcA k h1;obtain ⟨gb,ob,rfl,b0,b1⟩:=hcB k h2;have a0':=hb.cell a0;have a1':=hb.cell a1;have b0':=hb.cell b0;have b1':=hb.cell b1
    have HY:Hid (A[k]=B[k]→∀i (h1:i<A.length) (h2:i<B.length),i<k+1→A[i]=B[i]):=fun h0 i h1 h2 hi=>by
     by_cases hik:i=k
     ·subst hik;exact h0
     ·exact HA.out i h1 h2 (by omega)
    have HN:Hid (A[k]≠B[k]→Cu A B=k):=fun h0=>JN k A B hkA hkB HA.out (fun _ _=>h0)
    have hdA:decide ((k:Int)<A.length)=true:=jL (by omega);have hdB:decide ((k:Int)<B.length)=true:=jL (by omega);clear hcA hcB a0 a1 b0 b1 HA;have HEQ:Hid (A[k]=B[k]↔A[k].1=B[k].1∧A[k].2=B[k].2):=Prod.ext_iff;generalize A[k]=ea at *;generalize B[k]=eb at *;obtain ⟨p1,q1⟩:=ea;obtain ⟨p2,q2⟩:=eb;simp only at a0' a1' b0' b1' HEQ;have heqE:=NX;cases hx:(p1==p2 && q1==q2)
    ·have HNE : Hid (Cu A B = k) := HN.out (fun e => by
       have := HEQ.out.1 e
       rw [this.1, this.2] at hx
       simp at hx)
     go_wp2_with fail
     go_quiet (fail)
     go_wp2
     go_ret
     exact ⟨BO (by rw [HNE.out]),by solve_by_elim [jA,jB,jC,jD,jE]⟩
    ·have HY2:=jp (HY.out (HEQ.out.2 (by simpa using hx)));go_wp2_with fail;go_quiet (fail);go_wp2_with fail;go_roundg (A.length - (k+1))
     case measure=>omega
     case rel=>exact ⟨by solve_by_elim [jA,jB,jC,jD,jE],k+1,rfl,by go_num,by omega,by omega,HY2.out⟩
   ·have hdA:decide ((k:Int)<A.length)=true:=jL (by omega);have hdB:decide ((k:Int)<B.length)=false:=jK (by omega);have HNE:Hid (Cu A B=k):=JN k A B hkA hkB HA.out (fun _ h=>absurd h h2);clear hcA hcB HA;go_wp2_with fail;go_quiet (fail);go_wp2;go_ret;exact ⟨BO (by rw [HNE.out]),by solve_by_elim [jA,jB,jC,jD,jE]⟩
  ·have hdA:decide ((k:Int)<A.length)=false:=jK (by omega);have HNE:Hid (Cu A B=k):=JN k A B hkA hkB HA.out (fun h _=>absurd h h1);clear hcA hcB HA;go_wp2_with fail;go_quiet (fail);go_wp2;go_ret;exact ⟨BO (by rw [HNE.out]),by solve_by_elim [jA,jB,jC,jD,jE]⟩
def EE (a b:List EI):Nat:=Cu a.reverse b.reverse
theorem Mj (k:Nat) (a b:List EI) (ha:k≤a.length) (hb:k≤b.length) (h:∀i (h1:i<a.length) (h2:i<b.length),i<k→a[a.length - 1 - i]=b[b.length - 1 - i]) (hne:∀(h1:k<a.length) (h2:k<b.length),a[a.length - 1 - k]≠b[b.length - 1 - k]):EE a b=k:=by
 refine JN k _ _ (by simpa using ha) (by simpa using hb) (fun i h1 h2 hi=>?_) (fun h1 h2=>?_)
 ·rw [List.getElem_reverse,List.getElem_reverse];exact h i (by simpa using h1) (by simpa using h2) hi
 ·rw [List.getElem_reverse,List.getElem_reverse];exact hne (by simpa using h1) (by simpa using h2)
theorem Wm (A B:List EI) (vA vB:Value) (w:World) (hA:Bv w vA A) (hB:Bv w vB B) (hAl:A.length≤65536) (hBl:B.length≤65536):
  Calls Tryz.prog 199 #[vA,vB] w (D9 w (EE A B)):=by
 obtain ⟨aA,capA,rfl,hcA⟩:=hA;obtain ⟨aB,capB,rfl,hcB⟩:=hB;go_enter Tryz.func199,Tryz.ntmps199;go_wp2;go_loopg [5] A.length (fun r n wr=>Aa w wr∧∃k:Nat,r=A.length - k∧n= .int .i64 k∧k≤A.length∧k≤B.length∧∀i (h1:i<A.length) (h2:i<B.length),i<k→A[A.length - 1 - i]=B[B.length - 1 - i])
 case atStart=>exact ⟨jD _,0,by omega,rfl,by omega,by omega,fun i _ _ h=>by omega⟩
 case round=>
  obtain ⟨hb,k,hr,rfl,hkA,hkB,hall⟩:=hrel;have HA:=jp hall;clear hall;by_cases h1:k<A.length
  ·by_cases h2:k<B.length
   ·obtain ⟨ga,oa,rfl,a0,a1⟩:=hcA (A.length - 1 - k) (by omega);obtain ⟨gb,ob,rfl,b0,b1⟩:=hcB (B.length - 1 - k) (by omega);have a0':=hb.cell a0;have a1':=hb.cell a1;have b0':=hb.cell b0;have b1':=hb.cell b1
    have HY:Hid (A[A.length - 1 - k]=B[B.length - 1 - k]→∀i (h1:i<A.length) (h2:i<B.length),i<k+1→A[A.length - 1 - i]=B[B.length - 1 - i]):=fun h0 i h1 h2 hi=>by
     by_cases hik:i=k
     ·subst hik;exact h0
     ·exact HA.out i h1 h2 (by omega)
    have HN:Hid (A[A.length - 1 - k]≠B[B.length - 1 - k]→EE A B=k):=fun h0=>Mj k A B hkA hkB HA.out (fun _ _=>h0)
    have hdA:decide ((k:Int)<A.length)=true:=jL (by omega);have hdB:decide ((k:Int)<B.length)=true:=jL (by omega);clear hcA hcB a0 a1 b0 b1 HA;have HEQ:Hid (A[A.length - 1 - k]=B[B.length - 1 - k]↔A[A.length - 1 - k].1=B[B.length - 1 - k].1∧A[A.length - 1 - k].2=B[B.length - 1 - k].2):=Prod.ext_iff;generalize A[A.length - 1 - k]=ea at *;generalize B[B.length - 1 - k]=eb at *;obtain ⟨p1,q1⟩:=ea;obtain ⟨p2,q2⟩:=eb;simp only at a0' a1' b0' b1' HEQ;have heqE:=NX;have u1:(A.length:Int) - 1 - (k:Int)=((A.length - 1 - k:Nat):Int):=by omega
    have u2:(B.length:Int) - 1 - (k:Int)=((B.length - 1 - k:Nat):Int):=by omega
    have w1:IntKind.i64.wrap ((A.length:Int) - 1)=(A.length:Int) - 1:=by rw [IntKind.wrap_i64];omega
    have w2:IntKind.i64.wrap ((B.length:Int) - 1)=(B.length:Int) - 1:=by rw [IntKind.wrap_i64];omega
    have w3:IntKind.i64.wrap ((A.length:Int) - 1 - (k:Int))=((A.length - 1 - k:Nat):Int):=by rw [u1,IntKind.wrap_i64];omega
    have w4:IntKind.i64.wrap ((B.length:Int) - 1 - (k:Int))=((B.length - 1 - k:Nat):Int):=by rw [u2,IntKind.wrap_i64];omega
    have i1:A.length - 1 - k<A.length:=by omega
    have i2:B.length - 1 - k<B.length:=by omega
    generalize A.length - 1 - k=ka at *;generalize B.length - 1 - k=kb at *;clear u1 u2;cases hx:(p1==p2 && q1==q2)
    ·have HNE : Hid (EE A B = k) := HN.out (fun e => by
       have := HEQ.out.1 e
       rw [this.1, this.2] at hx
       simp at hx)
     go_wp2_with fail
     go_quiet (fail)
     go_wp2
     go_ret
     exact ⟨BO (by rw [HNE.out]),by solve_by_elim [jA,jB,jC,jD,jE]⟩
    ·have HY2:=jp (HY.out (HEQ.out.2 (by simpa using hx)));go_wp2_with fail;go_quiet (fail);go_wp2_with fail;go_roundg (A.length - (k+1))
     case measure=>omega
     case rel=>exact ⟨by solve_by_elim [jA,jB,jC,jD,jE],k+1,rfl,by go_num,by omega,by omega,HY2.out⟩
   ·have hdA:decide ((k:Int)<A.length)=true:=jL (by omega);have hdB:decide ((k:Int)<B.length)=false:=jK (by omega);have HNE:Hid (EE A B=k):=Mj k A B hkA hkB HA.out (fun _ h=>absurd h h2);clear hcA hcB HA;go_wp2_with fail;go_quiet (fail);go_wp2;go_ret;exact ⟨BO (by rw [HNE.out]),by solve_by_elim [jA,jB,jC,jD,jE]⟩
  ·have hdA:decide ((k:Int)<A.length)=false:=jK (by omega);have HNE:Hid (EE A B=k):=Mj k A B hkA hkB HA.out (fun h _=>absurd h h1);clear hcA hcB HA;go_wp2_with fail;go_quiet (fail);go_wp2;go_ret;exact ⟨BO (by rw [HNE.out]),by solve_by_elim [jA,jB,jC,jD,jE]⟩
theorem SH (O:List EI) (k a:Nat) (h:k<O.length):(O.take (k+1)).take a=if k<a then (O.take k).take a++[O[k]] else (O.take k).take a:=by
 rw [List.take_take,List.take_take];split
 ·rename_i h1;rw [Nat.min_eq_right (by omega),Nat.min_eq_right (by omega),jQ h]
 ·rename_i h1;rw [Nat.min_eq_left (by omega),Nat.min_eq_left (by omega)]
theorem YD (O:List EI) (k d:Nat) (h:k<O.length):(O.take (k+1)).drop d=if d≤k then (O.take k).drop d++[O[k]] else (O.take k).drop d:=by
 rw [jQ h];have hl:(O.take k).length=k:=by rw [jk];omega
 split
 ·rename_i h1;rw [List.drop_append_of_le_length (by omega)]
 ·rename_i h1;rw [List.drop_of_length_le (by simp;omega),List.drop_of_length_le (by omega)]
def Gj (ah bh:Nat) (M O:List EI):List EI:=(O.take ah++M)++O.drop (O.length - bh)
theorem XW (q ah bh:Nat) (vM vO:Value) (M O:List EI) (w:World) (c4:w.cell? ⟨q,4,none⟩=some (.int .i64 (ah:Int))) (c5:w.cell? ⟨q,5,none⟩=some (.int .i64 (bh:Int))) (c6:w.cell? ⟨q,6,none⟩=some vM) (hM:AR w vM M) (hO:AR w vO O) (hlM:M.length≤65536) (hlO:O.length≤65536) (ha:ah≤65536) (hbh:bh≤65536):
  Calls Tryz.prog 202 #[.pointer (some ⟨q,0,none⟩),vO] w (Jp w (Gj ah bh M O)):=by
 obtain ⟨i0,hi,hz0,hz1,hz2⟩:=info_parts Tryz.infoEI;obtain ⟨aO,capO,rfl,hcO⟩:=hO.open;have HM:=jp hM.src;clear hM hO;go_enter Tryz.func202,Tryz.ntmps202;go_wp2;go_loopg [5,12] O.length (fun r u n wr=>Aa w wr∧∃(k:Nat) (v:Value),v=u∧r=O.length - k∧k≤O.length∧n= .int .i64 k∧AS w.heap.size wr v ((O.take k).take ah))
 case atStart=>exact ⟨jD _,0,_,rfl,by omega,by omega,rfl,by simpa [AS,Bf] using World.ownsRow_nil w w.heap.size 116 2⟩
 case round=>
  obtain ⟨hb,k,v,rfl,hr,hk,rfl,hL⟩:=hrel;have hwr:=hb.size;have hLl:((O.take k).take ah).length≤200000:=by rw [jk];have:=List.length_take_le' k O;omega
  have HO:=jp hL;have s4:=hb.cell c4;have s5:=hb.cell c5;have s6:=hb.cell c6;clear hL;by_cases hlt:k<O.length
  ·obtain ⟨g,rfl,e0,e1⟩:=hcO k hlt;have e0':=hb.cell e0;have e1':=hb.cell e1;have HS:Hid ((O.take (k+1)).take ah=if k<ah then (O.take k).take ah++[O[k]] else (O.take k).take ah):=SH O k ah hlt;clear hcO e0 e1;generalize O[k]=ek at *;obtain ⟨pt,ow⟩:=ek;simp only at e0' e1';generalize (O.take k).take ah=L at *;have hqn:q≠wr.heap.size:=by have:=jF s4;simp only at this;omega
   have hql:q<wr.heap.size:=jF s4;by_cases hc1:k<ah
   ·rw [if_pos hc1] at HS;have hcb:decide ((k:Int)<(ah:Int))=true:=jL (by omega);go_wp2_with (first|(at_builtin;refine wpList_append_own _ rfl _ _ 64 rfl w.heap.size 116 i0 (.agg #[.int .u64 0,.int .i64 0]) 2 16 Tryz.underlying64 hi hz0 hz1 hz2 rfl (by decide) _ L.length (Bf L) rfl ?p1a ⟨wr.heap.size+1,0,none⟩ 1 1 [.int .u64 pt,.int .i64 ow] rfl rfl ?da1 ?da2 ?da3 ?da4 ?da5 ?_))
    case p1a=>exact (World.ownsRow.alloc (World.ownsRow.alloc HO.out _) _)
    try (case da1=>exact C8 _ _ _ _ _ (by simp))
    case da2=>first|exact ⟨rfl,rfl⟩|exact Df rfl rfl|(intro u hu;simp at hu;rcases hu with rfl|rfl <;>rfl)
    case da3=>unfold maxLen;omega
    case da4=>omega
    case da5=>first|omega|(simp;omega)
    intro v5 w5 hown5 hgrow5 _;have hb5:Aa w w5:=((hb.step_alloc _).step_alloc _).grown hgrow5 (fun g hg=>(World.ownsRow.lt HO.out g hg).1);have HO5:Hid (AS w.heap.size w5 v5 (L++[(pt,ow)])):=AS.snoc (b:=(pt,ow)) hown5 rfl;clear hown5 hgrow5;go_wp2;go_roundg (O.length - (k+1))
    case measure=>omega
    case rel=>exact ⟨hb5,k+1,_,rfl,rfl,by omega,by go_num,by rw [HS.out];exact HO5.out⟩
   ·rw [if_neg hc1] at HS;have hcb:decide ((k:Int)<(ah:Int))=false:=jK (by omega);go_wp2;go_roundg (O.length - (k+1))
    case measure=>omega
    case rel=>exact ⟨hb.step_alloc _,k+1,_,rfl,rfl,by omega,by go_num,by rw [HS.out];exact World.ownsRow.alloc HO.out _⟩
  ·have hkO:k=O.length:=by omega
   have hte:O.take k=O:=jR (by omega);rw [hte] at HO hLl;clear hte hkO;go_wp2_with (first|(at_builtin;refine Fn _ rfl _ _ 64 rfl w.heap.size 116 i0 (.agg #[.int .u64 0,.int .i64 0]) 2 16 Tryz.underlying64 hi hz0 hz1 hz2 rfl (by decide) v (O.take ah).length (Bf (O.take ah)) rfl HO.out vM M.length (Bf M) rfl ?o2 ?c1 ?c2 ?c3 ?c4 ?c5 ?_))
   case o2=>exact HM.out.later hb
   case c1=>exact Ps M
   case c2=>exact OD M
   case c3=>unfold maxLen;omega
   case c4=>omega
   case c5=>exact hwr
   intro v7 w7 hown7 hgrow7;have hb7:Aa w w7:=hb.grown hgrow7 (fun g hg=>(World.ownsRow.lt HO.out g hg).1)
   have HO7:Hid (AS w.heap.size w7 v7 (O.take ah++M)):=by
    show w7.ownsRow _ _ _ _ _ _;have e:Bf (O.take ah++M)=Bf (O.take ah)++Bf M:=by simp [Bf]
    rw [e,jO,jk];exact hown7
   have hL7:(O.take ah++M).length≤131072:=by rw [jO];have:=List.length_take_le' ah O;omega
   clear hown7 hgrow7 HO hb s4 s5 s6 hLl hr hwr;go_wp2_with fail;go_loopg [5,36] O.length (fun r u n wr=>Aa w wr∧∃(k:Nat) (v:Value),v=u∧r=O.length - k∧k≤O.length∧n= .int .i64 k∧AS w.heap.size wr v ((O.take ah++M)++(O.take k).drop (O.length - bh)))
   case atStart=>exact ⟨hb7,0,_,rfl,by omega,by omega,rfl,by simpa using HO7.out⟩
   case round=>
    obtain ⟨hb,k,v,rfl,hr,hk,rfl,hL⟩:=hrel;have hwr:=hb.size;have hLl:((O.take ah++M)++(O.take k).drop (O.length - bh)).length≤200000:=by rw [jO,jh];have:=List.length_take_le' k O;omega
    have HO:=jp hL;have s4:=hb.cell c4;have s5:=hb.cell c5;have s6:=hb.cell c6;clear hL;by_cases hlt:k<O.length
    ·obtain ⟨g,rfl,e0,e1⟩:=hcO k hlt;have e0':=hb.cell e0;have e1':=hb.cell e1;have HS:Hid ((O.take ah++M)++(O.take (k+1)).drop (O.length - bh)=if O.length - bh≤k then (O.take ah++M)++(O.take k).drop (O.length - bh)++[O[k]] else (O.take ah++M)++(O.take k).drop (O.length - bh)):=by show _=_;rw [YD O k _ hlt];split <;>simp
     clear hcO e0 e1;generalize O[k]=ek at *;obtain ⟨pt,ow⟩:=ek;simp only at e0' e1';generalize (O.take ah++M)++(O.take k).drop (O.length - bh)=L at *;have hqn:q≠wr.heap.size:=by have:=jF s4;simp only at this;omega
     have hql:q<wr.heap.size:=jF s4;by_cases hc1:O.length - bh≤k
     ·rw [if_pos hc1] at HS;have hcb:decide ((O.length:Int) - (bh:Int)≤(k:Int))=true:=jL (by omega);go_wp2_with (first|(at_builtin;refine wpList_append_own _ rfl _ _ 64 rfl w.heap.size 116 i0 (.agg #[.int .u64 0,.int .i64 0]) 2 16 Tryz.underlying64 hi hz0 hz1 hz2 rfl (by decide) _ L.length (Bf L) rfl ?p1a ⟨wr.heap.size+1,0,none⟩ 1 1 [.int .u64 pt,.int .i64 ow] rfl rfl ?da1 ?da2 ?da3 ?da4 ?da5 ?_))
      case p1a=>exact (World.ownsRow.alloc (World.ownsRow.alloc HO.out _) _)
      try (case da1=>exact C8 _ _ _ _ _ (by simp))
      case da2=>first|exact ⟨rfl,rfl⟩|exact Df rfl rfl|(intro u hu;simp at hu;rcases hu with rfl|rfl <;>rfl)
      case da3=>unfold maxLen;omega
      case da4=>omega
      case da5=>first|omega|(simp;omega)
      intro v5 w5 hown5 hgrow5 _;have hb5:Aa w w5:=((hb.step_alloc _).step_alloc _).grown hgrow5 (fun g hg=>(World.ownsRow.lt HO.out g hg).1);have HO5:Hid (AS w.heap.size w5 v5 (L++[(pt,ow)])):=AS.snoc (b:=(pt,ow)) hown5 rfl;clear hown5 hgrow5;go_wp2;go_roundg (O.length - (k+1))
      case measure=>omega
      case rel=>exact ⟨hb5,k+1,_,rfl,rfl,by omega,by go_num,by rw [HS.out];exact HO5.out⟩
     ·rw [if_neg hc1] at HS;have hcb:decide ((O.length:Int) - (bh:Int)≤(k:Int))=false:=jK (by omega);go_wp2;go_roundg (O.length - (k+1))
      case measure=>omega
      case rel=>exact ⟨hb.step_alloc _,k+1,_,rfl,rfl,by omega,by go_num,by rw [HS.out];exact World.ownsRow.alloc HO.out _⟩
    ·have hkO:k=O.length:=by omega
     have hte:O.take k=O:=jR (by omega);rw [hte] at HO hLl;clear hte hkO;clear hcO;go_wp2;go_ret;exact ⟨_,rfl,hb,by rw [Gj];exact HO.out⟩
def Jw (b s g:Nat):List Bool:=((([]++Az [67,80])++Ax b (8 * 4))++Ax s 32)++Ax g (8 * 4)
def Hl (b s g:Nat) (B:List BK) (ah bh:Nat) (M:List EI) (alg:Int):List Bool:=((((Jw b s g++Gd B)++Ax ah (8 * 2))++Ax bh (8 * 2))++Ax M.length (8 * 2))++EW (CO alg) (CX 1 alg B.length) M
def Hb (b s g:Nat) (vP:Value) (ah bh:Nat) (vM:Value):Value:= .agg #[.int .i64 (b:Int),.int .u32 (s:Int),.int .i64 (g:Int),vP,.int .i64 (ah:Int),.int .i64 (bh:Int),vM]
def G6 (b s g:Nat) (B:List BK) (ah bh:Nat) (M:List EI) (alg:Int):List UInt8:=AK (Hl b s g B ah bh M alg)++Cn (CB (AK (Hl b s g B ah bh M alg)))
theorem Ns (b s g:Nat):(Jw b s g).length=112:=by simp [Jw,Bd,Bk]
theorem PC {b s g:Nat} {B:List BK} {ah bh:Nat} {M:List EI} {alg:Int} (hB:AL B) (hM:M.length≤65536):(Hl b s g B ah bh M alg).length≤8389600:=by
 have h1:=Ns b s g;have h2:=KI hB;have h3:M.length * (CO alg+CX 1 alg B.length)≤65536 * 128:=Nat.mul_le_mul (by omega) (by have:=GJ alg;have:=Hs 1 alg B.length;omega);simp only [Hl,jO,Bd,L3,h1];omega
theorem Yl (b s g:Nat) (B:List BK) (ah bh:Nat) (M:List EI) (alg:Int) (vP vM:Value) (w:World) (hb:b≤4611686018427387904) (hs:s<4294967296) (hg:g≤4611686018427387904) (hah:ah≤65536) (hbh:bh≤65536) (hP:Am w vP B) (hB:AL B) (hM:Bv w vM M) (hok:∀e∈M,Fp e) (hlen:M.length≤65536):
  Calls Tryz.prog 200 #[Hb b s g vP ah bh vM,.int .i64 alg] w (DE w (G6 b s g B ah bh M alg)):=by
 obtain ⟨aP,capP,rfl, -⟩:=hP.open;obtain ⟨aM,capM,rfl, -⟩:=id hM;have h8:=hB.1;have hbl:=PC (b:=b) (s:=s) (g:=g) (ah:=ah) (bh:=bh) (alg:=alg) hB hlen;have hhl:=Ns b s g;have hbk:=KI hB;obtain ⟨XB,hXB⟩:∃X,X=Hl b s g B ah bh M alg:=⟨_,rfl⟩;have HXB:=jp hXB;unfold G6;rw [←hXB] at hbl ⊢;clear hXB;unfold Hl Jw at HXB;unfold Jw at hhl;unfold Hb;obtain ⟨W0,hW0⟩:∃W0,W0=w.alloc (.cells #[.int .i64 (b:Int),.int .u32 (s:Int),.int .i64 (g:Int),.slice aP B.length capP,.int .i64 (ah:Int),.int .i64 (bh:Int),.slice aM M.length capM] 224):=⟨_,rfl⟩;have hsz:W0.heap.size=w.heap.size+1:=by rw [hW0];simp
 have hb0:Aa w W0:=by rw [hW0];exact (jD w).step_alloc _
 have q0:W0.cell? ⟨w.heap.size,0,none⟩=some (.int .i64 (b:Int)):=by rw [hW0];simp
 have q1:W0.cell? ⟨w.heap.size,1,none⟩=some (.int .u32 (s:Int)):=by rw [hW0];simp
 have q2:W0.cell? ⟨w.heap.size,2,none⟩=some (.int .i64 (g:Int)):=by rw [hW0];simp
 have q3:W0.cell? ⟨w.heap.size,3,none⟩=some (.slice aP B.length capP):=by rw [hW0];simp
 have q4:W0.cell? ⟨w.heap.size,4,none⟩=some (.int .i64 (ah:Int)):=by rw [hW0];simp
 have q5:W0.cell? ⟨w.heap.size,5,none⟩=some (.int .i64 (bh:Int)):=by rw [hW0];simp
 have q6:W0.cell? ⟨w.heap.size,6,none⟩=some (.slice aM M.length capM):=by rw [hW0];simp
 have HP:=jp (hP.later hb0);have HE:=jp (hM.later hb0);have HOK:=jp hok;have HPB:=jp hB;have hI0:=Bb.new W0 149;rw [hsz] at hI0;have H0:=jp (Gh W0 (w.heap.size+1) [] ⟨#[67,80]⟩ _ hI0 (by simp [ByteArray.size]));have hU:IntKind.u64.wrap (s:Int)=(s:Int):=by rw [IntKind.wrap_u64];omega
 clear hI0 hP hM hok hB;go_enter Tryz.func200,Tryz.ntmps200;go_wp2_with fail;rw [←hW0];refine H0.out.mono ?_;rintro e w1 ⟨rfl,hI⟩;clear H0;have H1:=jp (Cb W0 (w.heap.size+1) _ b 4 _ hI (by simp [Bk]) (by omega) (by omega));have x0:=hI.1.cell q0;clear hI;go_wp2_with fail;refine H1.out.mono ?_;rintro e w2 ⟨rfl,hI⟩;clear H1 x0;have H2:=jp (Jv W0 (w.heap.size+1) _ s 32 _ hI (by simp [Bk,Bd]) (by omega) (by omega));have x1:=hI.1.cell q1;clear hI;go_wp2_with fail;refine H2.out.mono ?_;rintro e w3 ⟨rfl,hI⟩;clear H2 x1;have H3:=jp (Cb W0 (w.heap.size+1) _ g 4 _ hI (by simp [Bk,Bd]) (by omega) (by omega));have x2:=hI.1.cell q2;clear hI;go_wp2_with fail;refine H3.out.mono ?_;rintro e w4 ⟨rfl,hI⟩;clear H3 x2;generalize hHD:((([]++Az [67,80])++Ax b (8 * 4))++Ax s 32)++Ax g (8 * 4)=HD at *;clear hHD;have H8:=jp (Qc W0 (w.heap.size+1) _ B _ _ hI HP.out HPB.out (by omega));have x8:=hI.1.cell q3;clear hI;go_wp2_with fail;refine H8.out.mono ?_;rintro e w9 ⟨rfl,hI⟩;clear H8 x8;have G0:=jp (Cb W0 (w.heap.size+1) _ ah 2 _ hI (by simp only [jO];omega) (by omega) (by omega));have y0:=hI.1.cell q4;clear hI;go_wp2_with fail;refine G0.out.mono ?_;rintro e x0 ⟨rfl,hI⟩;clear G0 y0;have G1:=jp (Cb W0 (w.heap.size+1) _ bh 2 _ hI (by simp only [jO,Bd];omega) (by omega) (by omega));have y1:=hI.1.cell q5;clear hI;go_wp2_with fail;refine G1.out.mono ?_;rintro e x1 ⟨rfl,hI⟩;clear G1 y1;have G2:=jp (Cb W0 (w.heap.size+1) _ M.length 2 _ hI (by simp only [jO,Bd];omega) (by omega) (by omega));have y2:=hI.1.cell q6;clear hI;go_wp2_with fail;refine G2.out.mono ?_;rintro e x2 ⟨rfl,hI⟩;clear G2 y2;have HI:=jp hI;have y3:=hI.1.cell q3;have y6:=hI.1.cell q6;have hwd:=fun wx=>J5 1 alg B.length wx h8
 unfold IG at hwd;have hwo:=Hs 1 alg B.length;have hwp:=GJ alg;generalize CO alg=wp at *;generalize CX 1 alg B.length=wo at *;have hpe:=fun wx hx=>PH (K:=fun _=>none) W0 (w.heap.size+1) ((((HD++Gd B)++Ax ah (8 * 2))++Ax bh (8 * 2))++Ax M.length (8 * 2)) wp wo M (.slice aM M.length capM) wx hx HE.out HOK.out hlen (by omega) (by omega) (by simp only [jO,Bd];omega)
 clear hI;go_wp2_with fail
 go_region_with (first
   | (go_at_call 192
      refine (hwd _).mono ?_
      rintro e w11 ⟨rfl, hb11x⟩
      have hb11 : Aa x2 w11 := by first | exact hb11x | exact (jB (jD x2)).trans hb11x
      have HI11 := jp (HI.out.later hb11)
      have z3 := hb11.cell y3
      have z6 := hb11.cell y6
      clear hb11x hb11 hwd)
   | (go_at_call 214
      refine (hpe _ (by first | exact HI11.out | exact HI11.out.later (jB (jD _)))).mono ?_
      rintro e w12 ⟨rfl, hI12⟩
      have HI12 := jp hI12
      clear hI12 hpe))
 all_goals
  have hd:=Ij W0 (w.heap.size+1) _ _ HI12.out (by rw [←HXB.out];omega);rw [←HXB.out] at hd;have HD9:=jp hd;have hpl:(AK XB).length≤8389600:=jX (Gi _ _ (jH _)) hbl;have hse:=fun wx=>Jd (Ai (AK XB)) wx (by simp [Ai,ByteArray.size];omega)
  rw [Fs] at hse;clear hd;go_wp2_with fail;refine HD9.out.mono ?_;rintro e w13 ⟨rfl,hI13⟩;have HB13:=jp (hb0.trans hI13.1);clear hI13 HD9;generalize AK XB=PB at *;go_wp2_with fail;refine (hse _).mono ?_;rintro e w14 ⟨rfl,hb14⟩;have HB14:=jp (HB13.out.trans hb14);clear hb14;go_wp2;go_ret;exact ⟨rfl,HB14.out⟩
end Go.Proofs.YtpapdkhjdelfcabGreat
