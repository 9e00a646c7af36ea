import Derived.Test.YtpapdkhjdelfcabGreatLAL
namespace Go.Proofs.YtpapdkhjdelfcabGreat
open Go.RowKit
set_option maxRecDepth 100000
set_option maxHeartbeats 4000000
def Fr (B:List BK) (x:Int):Prop:=∃(j:Nat) (h:j<B.length),x=(j:Int)∧0<B[j].2
theorem WV (q:Nat) (c:Ac) (vP vE:Value) (B:List BK) (x:Int) (w:World) (hT:Cx w q c vP vE) (hP:Am w vP B):
  Calls Tryz.prog 236 #[.pointer (some ⟨q,0,none⟩),.int .i64 x] w (Hv (Fr B x) w):=by
 obtain ⟨-,h6, -⟩:=hT;obtain ⟨ao,cap,rfl,hc⟩:=hP.open;by_cases hx:0≤x
 ·obtain ⟨j,rfl⟩:∃j:Nat,x=(j:Int):=⟨x.toNat,by omega⟩;clear hx;by_cases hj:j<B.length
  ·obtain ⟨g,rfl,c0,c1⟩:=hc j hj
   have HS:Hid (Fr B (j:Int)↔0<B[j].2):=by
    show _↔_;refine ⟨fun ⟨i,hi,h1,h2⟩=>?_,fun h=>⟨j,hj,rfl,h⟩⟩;obtain rfl:i=j:=by omega
    exact h2
   clear hc c0;generalize B[j].2=wt at *;go_enter Tryz.func236,Tryz.ntmps236;go_wp2;go_ret;exact ⟨decide (0<wt),rfl,by solve_by_elim [jA,jB,jC,jD,jE],by rw [decide_eq_true_iff];exact HS.out.symm⟩
  ·have HS:Hid (¬Fr B (j:Int)):=fun ⟨i,hi,h1,h2⟩=>by omega
   clear hc;go_enter Tryz.func236,Tryz.ntmps236;go_wp2;go_ret;exact ⟨false,rfl,by solve_by_elim [jA,jB,jC,jD,jE],⟨fun h=>(by cases h),fun h=>absurd h HS.out⟩⟩
 ·have HS:Hid (¬Fr B x):=fun ⟨i,hi,h1,h2⟩=>by omega
  have hx2:x<0:=by omega
  clear hc hx;go_enter Tryz.func236,Tryz.ntmps236;go_wp2;go_ret;exact ⟨false,rfl,by solve_by_elim [jA,jB,jC,jD,jE],⟨fun h=>(by cases h),fun h=>absurd h HS.out⟩⟩
def Ii (a b:EI):Prop:=¬(b.1<a.1∨(a.1=b.1∧b.2<a.2))
def GC (E:List EI):Prop:=∀i (h:i+1<E.length),Ii E[i] E[i+1]
theorem VJ (E:List EI) (v:Value) (w:World) (hP:AR w v E) (hB:E.length≤1048576):
  Calls Tryz.prog 237 #[v] w (Hv (GC E) w):=by
 obtain ⟨ao,cap,rfl,hc⟩:=hP.open;go_enter Tryz.func237,Tryz.ntmps237;go_wp2;go_loopg [3] E.length (fun r n wr=>Aa w wr∧∃k:Nat,r=E.length - k∧n= .int .i64 ((k:Int)+1)∧k≤E.length∧∀i (h:i+1<E.length),i<k→Ii E[i] E[i+1])
 case atStart=>exact ⟨jD _,0,by omega,rfl,by omega,fun i h hi=>by omega⟩
 case round=>
  obtain ⟨hb,k,hr,rfl,hk,hall⟩:=hrel;have HA:=jp hall;clear hall;by_cases hlt:k+1<E.length
  ·obtain ⟨g,rfl,c0,c1⟩:=hc k (by omega);obtain ⟨g',hgg,d0,d1⟩:=hc (k+1) hlt;cases hgg;have c0':=hb.cell c0;have c1':=hb.cell c1;have d0':=hb.cell d0;have d1':=hb.cell d1;have hglt:g<wr.heap.size:=jF c0';have HN:Hid (GC E→Ii E[k] E[k+1]):=fun h=>h k hlt
   have HY:Hid (Ii E[k] E[k+1]→∀i (h:i+1<E.length),i<k+1→Ii E[i] E[i+1]):=fun h0 i h hi=>by
    by_cases hik:i=k
    ·subst hik;exact h0
    ·exact HA.out i h (by omega)
   clear hc c0 c1 d0 d1 HA;unfold Ii at HN HY;generalize E[k].1=a1 at *;generalize E[k].2=a2 at *;generalize E[k+1].1=b1 at *;generalize E[k+1].2=b2 at *;have hki:((k:Int)+1<(E.length:Int)):=by omega
   by_cases h1:b1<a1
   ·replace HN:Hid (¬GC E):=fun h=>HN.out h (Or.inl h1)
    go_wp2;go_ret;exact ⟨false,rfl,by solve_by_elim [jA,jB,jC,jD,jE],⟨fun h=>(by cases h),fun h=>absurd h HN.out⟩⟩
   ·have h1b:decide (b1<a1)=false:=jK h1;have HH1:=jp h1;clear h1;cases h2:(a1==b1)
    ·have HH2:Hid (a1≠b1):=fun e=>by rw [e] at h2;simp at h2
     go_wp2_with fail;go_roundg (E.length - (k+1))
     case measure=>omega
     case rel=>exact ⟨by solve_by_elim [jA,jB,jC,jD,jE],k+1,rfl,by go_num,by omega,HY.out (fun h=>by have q1:=HH1.out;have q2:a1≠b1:=HH2.out;omega)⟩
    ·have HH2:Hid (a1=b1):=by show a1=b1;simpa using h2
     by_cases h3:b2<a2
     ·replace HN:Hid (¬GC E):=fun h=>HN.out h (Or.inr ⟨HH2.out,h3⟩)
      go_wp2;go_ret;exact ⟨false,rfl,by solve_by_elim [jA,jB,jC,jD,jE],⟨fun h=>(by cases h),fun h=>absurd h HN.out⟩⟩
     ·have h3b:decide (b2<a2)=false:=jK h3;have HH3:=jp h3;clear h3;go_wp2_with fail;go_roundg (E.length - (k+1))
      case measure=>omega
      case rel=>exact ⟨by solve_by_elim [jA,jB,jC,jD,jE],k+1,rfl,by go_num,by omega,HY.out (fun h=>by have q1:=HH1.out;have q3:=HH3.out;omega)⟩
  ·have HE:Hid (GC E):=fun i h=>HA.out i h (by omega)
   have hki:¬((k:Int)+1<(E.length:Int)):=by omega
   clear hc HA;go_wp2;go_ret;exact ⟨true,rfl,by solve_by_elim [jA,jB,jC,jD,jE],⟨fun _=>HE.out,fun _=>rfl⟩⟩
def Dg (E:List EI) (k:Nat):Nat:=E.countP fun e=>e.2==(k:Int)
def Gs (c:Ac) (B:List BK) (E:List EI):Prop:=∀j (h:j<B.length),(Dg E j:Int)=Ei c * B[j].2
theorem UR (E:List EI) (k i:Nat) (h:i<E.length):Dg (E.take (i+1)) k=Dg (E.take i) k+(if E[i].2==(k:Int) then 1 else 0):=by
 rw [jQ h,Dg,Dg,List.countP_append];simp [List.countP_cons]
theorem VV (E:List EI) (k i:Nat):Dg (E.take i) k≤E.length:=jX List.countP_le_length (List.length_take_le' _ _)
theorem Th (q:Nat) (c:Ac) (vP vE:Value) (B:List BK) (E:List EI) (w:World) (hT:Cx w q c vP vE) (hP:Am w vP B) (hE:AR w vE E) (hB:AL B) (hlen:E.length≤1048576) (hc:c.TOK):
  Calls Tryz.prog 238 #[.pointer (some ⟨q,0,none⟩)] w (Hv (Gs c B E) w):=by
 have hel:=Mg hc;have hea:=fun wx=>OM c wx
 have hAO:∀j (h:j<B.length),Gs c B E→(Dg E j:Int)=Ei c * B[j].2:=fun j h k=>k j h
 have HAO:=jp hAO;have HFin:Hid ((∀j (h:j<B.length),(Dg E j:Int)=Ei c * B[j].2)→Gs c B E):=fun h=>h
 clear hAO;have HT:=jp hT;generalize Ei c=ea at *;obtain ⟨⟨t0,t1,t2,t3,t4,t5⟩,t6,t7⟩:=hT;obtain ⟨aP,capP,rfl,hcP⟩:=hP.open;obtain ⟨aE,capE,rfl,hcE⟩:=hE.open;obtain ⟨h8,hall⟩:=hB;obtain ⟨b1,b2⟩:=hel;obtain ⟨alg,slots,points,probes,key,formats⟩:=c;simp only [Ac.cells] at *;clear hP hE hc HT;go_enter Tryz.func238,Tryz.ntmps238;go_wp2;go_loopg [13] B.length (fun r n wr=>Aa w wr∧∃k:Nat,r=B.length - k∧k≤B.length∧n= .int .i64 k∧∀j (h:j<B.length),j<k→(Dg E j:Int)=ea * B[j].2)
 case atStart=>exact ⟨jD _,0,by omega,by omega,rfl,fun j h hj=>by omega⟩
 case round=>
  obtain ⟨hb,k,hr,hk,rfl,hA⟩:=hrel;have HA:=jp hA;clear hA;by_cases hlt:k<B.length
  ·obtain ⟨g,rfl,c0,c1⟩:=hcP k hlt;have c0':=hb.cell c0;have c1':=hb.cell c1;have hwt:=(hall _ (jJ hlt)).2.2;have HN:Hid (Gs ⟨alg,slots,points,probes,key,formats⟩ B E→(Dg E k:Int)=ea * B[k].2):=HAO.out k hlt
   have HY:Hid ((Dg E k:Int)=ea * B[k].2→∀j (h:j<B.length),j<k+1→(Dg E j:Int)=ea * B[j].2):=fun h0 j h hj=>by
    by_cases hjk:j=k
    ·subst hjk;exact h0
    ·exact HA.out j h (by omega)
   clear HA c0 c1;generalize B[k].1=idk at *;generalize B[k].2=wk at *;obtain ⟨w1,w2⟩:=hwt;obtain ⟨Wb,hWb⟩:∃Wb,Wb=wr.alloc (.cells #[.string idk,.int .i64 wk] 75):=⟨_,rfl⟩;have hbb:Aa w Wb:=by rw [hWb];exact hb.step_alloc _
   have HXb:Hid (Ae wr.heap.size 75 #[.string idk,.int .i64 wk] Wb):=by show Ae _ _ _ Wb;rw [hWb];exact Ae.new _ _ _
   have s7:=hb.cell t7;have hqlt:q<wr.heap.size:=jF s7;go_wp2_with fail;rw [←hWb];clear hWb;go_loopg [5,23] E.length (fun r s n wi=>Aa Wb wi∧∃i:Nat,r=E.length - i∧i≤E.length∧n= .int .i64 i∧s= .int .i64 (Dg (E.take i) k:Int))
   case atStart=>exact ⟨jD _,0,by omega,by omega,rfl,by simp [Dg]⟩
   case round=>
    obtain ⟨hbi,i,hri,hi,rfl,rfl⟩:=hrel;have hcl:=VV E k i;by_cases hil:i<E.length
    ·obtain ⟨ge,rfl,e0,e1⟩:=hcE i hil;have e0':=(hbb.trans hbi).cell e0;have e1':=(hbb.trans hbi).cell e1;have HS:Hid (Dg (E.take (i+1)) k=Dg (E.take i) k+(if E[i].2==(k:Int) then 1 else 0)):=UR E k i hil;clear e0 e1;generalize E[i].1=pt at *;generalize E[i].2=ow at *;generalize Dg (E.take i) k=cn at *;cases ho:(ow==(k:Int))
     ·rw [ho] at HS;go_wp2_with fail;go_roundg (E.length - (i+1))
      case measure=>omega
      case rel=>exact ⟨by solve_by_elim [jA,jB,jC,jD,jE],i+1,rfl,by omega,by go_num,by rw [HS.out];simp⟩
     ·rw [ho] at HS;go_wp2_with fail;go_roundg (E.length - (i+1))
      case measure=>omega
      case rel=>exact ⟨by solve_by_elim [jA,jB,jC,jD,jE],i+1,rfl,by omega,by go_num,by rw [HS.out];simp⟩
    ·have hii:i=E.length:=by omega
     have hte:E.take i=E:=jR (by omega);rw [hte];rw [hte] at hcl;have X:=HXb.out.bel hbi;have x1:=X.cell 1 rfl;have hbw:=hbb.trans hbi;have u0:=hbw.cell t0;have u1:=hbw.cell t1;have u2:=hbw.cell t2;have u3:=hbw.cell t3;have u4:=hbw.cell t4;have u5:=hbw.cell t5;have HBW:=jp hbw;have hm:0≤ea * wk:=Int.mul_nonneg (by omega) (by omega)
     have hm2:ea * wk≤18:=by
      have:ea * wk≤3 * 6:=Int.mul_le_mul b2 w2 w1 (by omega);omega
     have hwm:IntKind.i64.wrap (ea * wk)=ea * wk:=by rw [IntKind.wrap_i64];omega
     clear hte hii X hcE hcP hbi hbb t0 t1 t2 t3 t4 t5 t6 t7 s7;generalize Dg E k=cn at *;cases hq:((cn:Int) !=ea * wk)
     ·have HQ:Hid ((cn:Int)=ea * wk):=by show _=_;simpa using hq
      go_wp2_with fail;go_region_with (go_at_call 143;refine (hea _).mono ?_;rintro e w9 ⟨rfl,hb9x⟩;have hb9:Aa wr w9:=(by first|exact hb9x|exact (jB (jD wr)).trans hb9x);have x9:=hb9.cell x1;have HB9:=jp (HBW.out.trans hb9);clear hb9x hb9)
      all_goals
       go_wp2_with fail;go_roundg (B.length - (k+1))
       case measure=>omega
       case rel=>exact ⟨HB9.out,k+1,rfl,by omega,by go_num,HY.out HQ.out⟩
     ·have HQ:Hid (¬(cn:Int)=ea * wk):=by show ¬_;simpa using hq
      go_wp2_with fail;go_region_with (go_at_call 143;refine (hea _).mono ?_;rintro e w9 ⟨rfl,hb9x⟩;have hb9:Aa wr w9:=(by first|exact hb9x|exact (jB (jD wr)).trans hb9x);have x9:=hb9.cell x1;have HB9:=jp (HBW.out.trans hb9);clear hb9x hb9)
      all_goals
       go_wp2;go_ret;exact ⟨false,rfl,HB9.out,⟨fun h=>(by cases h),fun h=>absurd (HN.out h) HQ.out⟩⟩
  ·have HE:Hid (Gs ⟨alg,slots,points,probes,key,formats⟩ B E):=HFin.out (fun j h=>HA.out j h (by omega));clear hcP hcE HA;go_wp2;go_ret;exact ⟨true,rfl,by solve_by_elim [jA,jB,jC,jD,jE],⟨fun _=>HE.out,fun _=>rfl⟩⟩
def IN (c:Ac) (B:List BK) (E:List EI):Prop:=(E.length:Int)=GM c B∧(∀e∈E,Fr B e.2)∧(Fq c.alg=true→GC E∧Gs c B E)
theorem WL (q:Nat) (c:Ac) (vP vE:Value) (B:List BK) (E:List EI) (w:World) (hT:Cx w q c vP vE) (hP:Am w vP B) (hE:AR w vE E) (hB:AL B) (hlen:E.length≤1048576) (hc:c.TOK):
  Calls Tryz.prog 227 #[.pointer (some ⟨q,0,none⟩)] w (Hv (IN c B E) w):=by
 have hcn:=fun wx hx=>SL c B vP wx hx hB hc
 have hsv:=fun x wx (h1:Cx wx q c vP vE) (h2:Am wx vP B)=>WV q c vP vE B x wx h1 h2
 have hri:=fun wx (h:AR wx vE E)=>VJ E vE wx h hlen
 have hao:=fun wx (h1:Cx wx q c vP vE) (h2:Am wx vP B) (h3:AR wx vE E)=>Th q c vP vE B E wx h1 h2 h3 hB hlen hc
 have hhp:=fun wx=>Lu c.alg wx
 have HR:Hid (IN c B E↔(E.length:Int)=GM c B∧(∀e∈E,Fr B e.2)∧(Fq c.alg=true→GC E∧Gs c B E)):=Iff.rfl;generalize GM c B=cn at *;generalize Fq c.alg=hp at *;generalize IN c B E=RT at *;generalize GC E=RE at *;generalize Gs c B E=AE at *;have HT:=jp hT;have HP:=jp hP;have HE:=jp hE;obtain ⟨⟨t0,t1,t2,t3,t4,t5⟩,t6,t7⟩:=hT;obtain ⟨aP,capP,hvP, -⟩:=hP.open;obtain ⟨aE,capE,hvE,hcE⟩:=hE.open;subst hvP hvE;obtain ⟨alg,slots,points,probes,key,formats⟩:=c;simp only [Ac.cells] at *;clear hP hE hc hB;go_enter Tryz.func227,Tryz.ntmps227;go_wp2_with fail;go_region_held3 (fun w'=>Aa w w'∧w'.cell? ⟨q,0,none⟩=some (.int .i64 alg)∧w'.cell? ⟨q,1,none⟩=some (.int .i64 slots)∧w'.cell? ⟨q,2,none⟩=some (.int .i64 points)∧w'.cell? ⟨q,3,none⟩=some (.int .i64 probes)∧w'.cell? ⟨q,4,none⟩=some (.string key)∧w'.cell? ⟨q,5,none⟩=some (.int .i64 formats)∧w'.cell? ⟨q,6,none⟩=some (.slice aP B.length capP)∧w'.cell? ⟨q,7,none⟩=some (.slice aE E.length capE)) ((exact ⟨by solve_by_elim [jA,jB,jC,jD,jE],Aa.cell (by solve_by_elim [jA,jB,jC,jD,jE]) t0,Aa.cell (by solve_by_elim [jA,jB,jC,jD,jE]) t1,Aa.cell (by solve_by_elim [jA,jB,jC,jD,jE]) t2,Aa.cell (by solve_by_elim [jA,jB,jC,jD,jE]) t3,Aa.cell (by solve_by_elim [jA,jB,jC,jD,jE]) t4,Aa.cell (by solve_by_elim [jA,jB,jC,jD,jE]) t5,Aa.cell (by solve_by_elim [jA,jB,jC,jD,jE]) t6,Aa.cell (by solve_by_elim [jA,jB,jC,jD,jE]) t7⟩)) ((go_at_call 235;refine (hcn _ (HP.out.later (by solve_by_elim [jA,jB,jC,jD,jE]))).mono ?_;rintro e w9 ⟨rfl,hb9⟩));have HB9:Hid (Aa w w9):=by show Aa w w9;solve_by_elim [jA,jB,jC,jD,jE]
 have z7:=HB9.out.cell t7;cases hq:((E.length:Int) !=cn)
 rotate_left
 ·have HQ:Hid (¬(E.length:Int)=cn):=by show ¬_;simpa using hq
  go_wp2;go_ret;exact ⟨false,rfl,HB9.out,⟨fun h=>(by cases h),fun h=>absurd (HR.out.1 h).1 HQ.out⟩⟩
 ·have HQ:Hid ((E.length:Int)=cn):=by show _=_;simpa using hq
  clear hq;go_wp2_with fail;go_loopg [25] E.length (fun r n wr=>Aa w wr∧∃k:Nat,r=E.length - k∧k≤E.length∧n= .int .i64 k∧∀j (h:j<E.length),j<k→Fr B E[j].2)
  case atStart=>exact ⟨HB9.out,0,by omega,by omega,rfl,fun j h hj=>by omega⟩
  case round=>
   obtain ⟨hb,k,hr,hk,rfl,hA⟩:=hrel;have HA:=jp hA;clear hA HB9 z7;by_cases hlt:k<E.length
   ·obtain ⟨g,rfl,c0,c1⟩:=hcE k hlt;have c0':=hb.cell c0;have c1':=hb.cell c1;have HN:Hid (RT→Fr B E[k].2):=fun h=>(HR.out.1 h).2.1 _ (jJ hlt)
    have HY:Hid (Fr B E[k].2→∀j (h:j<E.length),j<k+1→Fr B E[j].2):=fun h0 j h hj=>by
     by_cases hjk:j=k
     ·subst hjk;exact h0
     ·exact HA.out j h (by omega)
    have hsk:=hsv E[k].2;clear HA c0 c1;generalize E[k].1=pt at *;generalize E[k].2=ow at *;go_wp2_with fail;refine (hsk _ (HT.out.later (hb.step_alloc _)) (HP.out.later (hb.step_alloc _))).mono ?_;rintro e w2 ⟨x,rfl,hb2,hx⟩;have HX:=jp hx;have HB2:=jp ((hb.step_alloc _).trans hb2);clear hx hb2;cases x
    ·go_wp2;go_ret;exact ⟨false,rfl,HB2.out,⟨fun h=>(by cases h),fun h=>by have:=HX.out.2 (HN.out h);cases this⟩⟩
    ·go_wp2_with fail;go_roundg (E.length - (k+1))
     case measure=>omega
     case rel=>exact ⟨HB2.out,k+1,rfl,by omega,by go_num,HY.out (HX.out.1 (by simp))⟩
   ·have HAll:Hid (∀e∈E,Fr B e.2):=fun e he=>by
     obtain ⟨j,hj,rfl⟩:=List.getElem_of_mem he;exact HA.out j hj (by omega)
    have s0:=hb.cell t0
    have HB:=jp hb
    clear HA hcE hsv hb
    go_wp2_with fail
    refine (hhp _).mono ?_
    rintro e w2 ⟨rfl,hb2⟩
    have HB2:=jp (HB.out.trans hb2)
    have s7:=HB2.out.cell t7
    clear hb2 HB s0
    cases hp
    ·go_wp2
     go_ret
     exact ⟨true,rfl,HB2.out,⟨fun _=>HR.out.2 ⟨HQ.out,HAll.out,fun h=>by simp at h⟩,fun _=>rfl⟩⟩
    ·go_wp2_with fail
     refine (hri _ (HE.out.later HB2.out)).mono ?_
     rintro e w3 ⟨x,rfl,hb3,hx⟩
     have HX:=jp hx
     have HB3:=jp (HB2.out.trans hb3)
     clear hx hb3 HB2 s7
     cases x
     ·go_wp2
      go_ret
      exact ⟨false,rfl,HB3.out,⟨fun h=>(by cases h),fun h=>by have:=HX.out.2 ((HR.out.1 h).2.2 (by simp)).1;cases this⟩⟩
     ·go_wp2_with fail
      refine (hao _ (HT.out.later HB3.out) (HP.out.later HB3.out) (HE.out.later HB3.out)).mono ?_
      rintro e w4 ⟨y,rfl,hb4,hy⟩
      have HY:=jp hy
      have HB4:=jp (HB3.out.trans hb4)
      clear hy hb4 HB3
      go_wp2
      go_ret
      exact ⟨y,rfl,HB4.out,⟨fun h=>HR.out.2 ⟨HQ.out,HAll.out,fun _=>⟨HX.out.1 (by simp),HY.out.1 h⟩⟩,fun h=>HY.out.2 ((HR.out.1 h).2.2 (by simp)).2⟩⟩
def DR (g:Nat) (c:Ac) (B:List BK) (E:List EI):Prop:=(1≤g∧g≤1073741824)∧IN c B E
theorem Pa (g:Nat) (c:Ac) (vP vE:Value) (B:List BK) (E:List EI) (w:World) (hP:Am w vP B) (hE:AR w vE E) (hB:AL B) (hlen:E.length≤1048576) (hc:c.TOK):
  Calls Tryz.prog 193 #[.int .i64 (g:Int),DW c vP vE] w (Hv (DR g c B E) w):=by
 have hgn:=fun wx=>RP (g:Int) wx
 have hri:=fun wx h1 h2 h3=>WL w.heap.size c vP vE B E wx h1 h2 h3 hB hlen hc
 have HR:Hid (DR g c B E↔(1≤g∧g≤1073741824)∧IN c B E):=Iff.rfl;generalize DR g c B E=RG at *;generalize IN c B E=RT at *;obtain ⟨W0,hW0⟩:∃W0,W0=w.alloc (.cells #[.int .i64 c.alg,.int .i64 c.slots,.int .i64 c.points,.int .i64 c.probes,.string c.key,.int .i64 c.formats,vP,vE] 66):=⟨_,rfl⟩;have hb0:Aa w W0:=by rw [hW0];exact (jD w).step_alloc _
 have HT:Hid (Cx W0 w.heap.size c vP vE):=by
  show Cx _ _ _ _ _;have X:=Ae.new w 66 #[.int .i64 c.alg,.int .i64 c.slots,.int .i64 c.points,.int .i64 c.probes,.string c.key,.int .i64 c.formats,vP,vE];rw [←hW0] at X;exact ⟨⟨X.cell 0 rfl,X.cell 1 rfl,X.cell 2 rfl,X.cell 3 rfl,X.cell 4 rfl,X.cell 5 rfl⟩,X.cell 6 rfl,X.cell 7 rfl⟩
 have HP:=jp (hP.later hb0);have HE:=jp (hE.later hb0);have HB0:=jp hb0;clear hP hE hb0 hB hc;unfold DW;go_enter Tryz.func193,Tryz.ntmps193;go_wp2_with fail;rw [←hW0];refine (hgn _).mono ?_;rintro e w1 ⟨x,rfl,rfl,hx⟩;have HX:Hid (x=true↔1≤g∧g≤1073741824):=⟨fun h=>by have:=hx.1 h;unfold Hd at this;omega,fun h=>hx.2 (by unfold Hd;omega)⟩;clear hx hgn hW0;cases x
 ·go_wp2;go_ret;exact ⟨false,rfl,HB0.out,⟨fun h=>(by cases h),fun h=>by have:=HX.out.2 (HR.out.1 h).1;cases this⟩⟩
 ·go_wp2_with fail;refine (hri _ HT.out HP.out HE.out).mono ?_;rintro e w2 ⟨y,rfl,hb2,hy⟩;have HY:=jp hy;have HB2:=jp (HB0.out.trans hb2);clear hy hb2;go_wp2;go_ret;exact ⟨y,rfl,HB2.out,⟨fun h=>HR.out.2 ⟨HX.out.1 (by simp),HY.out.1 h⟩,fun h=>HY.out.2 (HR.out.1 h).2⟩⟩
def BJ (f g:Nat) (c:Ac) (B:List BK) (E:List EI):List UInt8:=AK (DS f g c B E)++Cn (CB (AK (DS f g c B E)))
theorem Jb {f g:Nat} {c:Ac} {B:List BK} {E:List EI} (hk:c.key.size=16) (hB:AL B) (hE:E.length≤65536):(AK (DS f g c B E)).length≤8389600:=jX (Gi _ _ (jH _)) (M7 hk hB hE)
theorem Js (f g:Nat) (c:Ac) (B:List BK) (E:List EI) (vP vE:Value) (w:World) (hf:f≤4611686018427387904) (hg:g≤4611686018427387904) (hc:c.TOK) (hP:Am w vP B) (hB:AL B) (hE:Bv w vE E) (hok:∀e∈E,Fp e) (hlen:E.length≤65536):
  Calls Tryz.prog 122 #[.int .i64 (f:Int),.int .i64 (g:Int),DW c vP vE] w (DE w (BJ f g c B E)):=by
 have hbo:=fun wx h1 h2=>M9 f g c B E vP vE wx hf hg hc h1 hB h2 hok hlen
 have hle:=Jb (f:=f) (g:=g) (E:=E) hc.2.2.2.2.2.2.2.2.2 hB hlen;have hse:=fun wx=>Jd (Ai (AK (DS f g c B E))) wx (by simp [Ai,ByteArray.size];omega)
 rw [Fs] at hse;unfold BJ;generalize AK (DS f g c B E)=PB at *;have HP:=jp hP;have HE:=jp hE;unfold DW at *;obtain ⟨alg,slots,points,probes,key,formats⟩:=c;simp only at *;clear hc hP hE hB hok;go_enter Tryz.func122,Tryz.ntmps122;go_wp2_with fail;refine (hbo _ (HP.out.later (by solve_by_elim [jA,jB,jC,jD,jE])) (HE.out.later (by solve_by_elim [jA,jB,jC,jD,jE]))).mono ?_;rintro e w1 ⟨rfl,hb1⟩;have HB1:Hid (Aa w w1):=((jD w).step_alloc _).trans hb1;clear hb1;go_wp2_with fail;refine (hse _).mono ?_;rintro e w2 ⟨rfl,hb2⟩;have HB2:=jp (HB1.out.trans hb2);clear hb2;go_wp2;go_ret;exact ⟨rfl,HB2.out⟩
theorem St.setO {W0:World} {p:Nat} {o:Option (List Bool)} {q:Nat} {tq:TypeId} {qc:Array Value} {W:World} (h:St W0 p o q tq qc W) {a:Addr} (h1:W0.heap.size≤a.block) (h2:a.block≠p) (h3:a.block≠q) (u:Value):St W0 p o q tq qc (W.setCell a u):=
 ⟨h.1.setN h1 u,h.2.1.kept (by simp only [World.setCell,Array.getElem?_modify,if_neg h2]),h.2.2.1.setO h3 u,h.2.2.2⟩
theorem Rs.setO {p:Nat} {o:Option (List Bool)} {W:World} (h:Rs p o W) {a:Addr} (h2:a.block≠p) (u:Value):Rs p o (W.setCell a u):=h.kept (by simp only [World.setCell,Array.getElem?_modify,if_neg h2])
def D8 (f g:Nat) (c:Ac) (vP vE:Value):Value:= .agg #[.int .i64 (f:Int),.int .i64 (g:Int),.int .i64 c.alg,.int .i64 c.slots,.int .i64 c.points,.int .i64 c.probes,.string c.key,.int .i64 c.formats,vP,vE]
def Im:List Bool→Option ((Nat×Nat×Ac)×List Bool):=Bo (A9 8) fun f=>Bo (A9 8) fun a=>Bo (A9 32) fun g=>Bo (A9 16) fun s=>Bo (A9 8) fun pt=>Bo (A9 8) fun pr=>Bo (DU 16) fun k=>DT (f,g,⟨(a:Int),(s:Int),(pt:Int),(pr:Int),Ai k,0⟩)
def Vy (p:Nat) (o:Option (List Bool)) (w:World) (e:Ending) (w':World):Prop:=
 ∃(f g:Nat) (c:Ac) (o':Option (List Bool)),e= .returned (D8 f g c (.slice none 0 0) (.slice none 0 0))∧Ab [p] w w'∧Rs p o' w'∧o.bind Im=o'.map (Prod.mk (f,g,c))∧g<4294967296∧f<256
theorem VO (p:Nat) (o:Option (List Bool)) (w:World) (h:Rs p o w):
  Calls Tryz.prog 189 #[.pointer (some ⟨p,0,none⟩)] w (Vy p o w):=by
 have hp:=h.lt;obtain ⟨W0,hW0⟩:∃W0,W0=w.alloc (.cells #[.int .i64 0,.int .i64 0,.int .i64 0,.int .i64 0,.int .i64 0,.int .i64 0,.string ⟨#[]⟩,.int .i64 0,.slice none 0 0,.slice none 0 0] 173):=⟨_,rfl⟩;obtain ⟨W1,hW1⟩:∃W1,W1=W0.alloc (.cells #[.int .i64 0,.int .i64 0,.int .i64 0,.int .i64 0,.int .i64 0,.int .i64 0,.string ⟨#[]⟩,.int .i64 0,.slice none 0 0,.slice none 0 0] 173):=⟨_,rfl⟩;have hs0:W0.heap.size=w.heap.size+1:=by rw [hW0];simp
 have hs1:W1.heap.size=w.heap.size+1+1:=by rw [hW1];simp [hs0]
 have hb0:Aa w W0:=by rw [hW0];exact (jD w).step_alloc _
 have hb1:Aa W0 W1:=by rw [hW1];exact (jD W0).step_alloc _
 have HR0:Hid (Ae w.heap.size 173 #[.int .i64 0,.int .i64 0,.int .i64 0,.int .i64 0,.int .i64 0,.int .i64 0,.string ⟨#[]⟩,.int .i64 0,.slice none 0 0,.slice none 0 0] W0):=by show Ae _ _ _ W0;rw [hW0];exact Ae.new _ _ _
 have HM:Hid (Ae (w.heap.size+1) 173 #[.int .i64 0,.int .i64 0,.int .i64 0,.int .i64 0,.int .i64 0,.int .i64 0,.string ⟨#[]⟩,.int .i64 0,.slice none 0 0,.slice none 0 0] W1):=by show Ae _ _ _ W1;rw [←hs0,hW1];exact Ae.new _ _ _
 have HS:=jp (St.new (tq:=34) (qc:=#[.int .i64 0,.int .i64 0,.int .i64 0,.int .i64 0,.string ⟨#[]⟩,.int .i64 0]) (Ab.of_bel (M:=[p]) hb1) (h.kept ((hb0.trans hb1).block p h.lt)));rw [hs1] at HS;replace HM:=jp (HM.out.alloc (.cells #[.int .i64 0,.int .i64 0,.int .i64 0,.int .i64 0,.string ⟨#[]⟩,.int .i64 0] 34));have HB0:=jp hb0;have HZ0:=jp hs0;clear h hb0 hb1;go_enter Tryz.func189,Tryz.ntmps189;have K0:=jp (Cp p _ 1 _ HS.out.rs (by omega));go_wp2_with fail;rw [←hW0,←hW1];refine K0.out.mono ?_;rintro e v0 ⟨f,o1,rfl,hB,hR,hlt0,hq0⟩;replace HS:=jp (HS.out.read hB hR);replace HM:=jp (HM.out.but hB (by simp;omega));have g0:=HM.out.cell 0 rfl;have k0:=HM.out.free 0;replace HS:=jp (HS.out.setO (a:=⟨w.heap.size+1,0,none⟩) (by have:=HZ0.out;simp only;omega) (by simp only;omega) (by simp) (.int .i64 (f:Int)));replace HM:=jp (HM.out.set 0 (.int .i64 (f:Int)) (cs':=#[.int .i64 (f:Int),.int .i64 0,.int .i64 0,.int .i64 0,.int .i64 0,.int .i64 0,.string ⟨#[]⟩,.int .i64 0,.slice none 0 0,.slice none 0 0]) rfl);have P0:=jp hq0;clear hB hR hq0 K0;have HF:Hid (f<256):=hlt0;clear hlt0;have K1:=jp (Cp p _ 1 _ HS.out.rs (by omega));go_wp2_with fail;refine K1.out.mono ?_;rintro e v1 ⟨a,o2,rfl,hB,hR,hlt1,hq1⟩;replace HS:=jp (HS.out.read hB hR);replace HM:=jp (HM.out.but hB (by simp;omega));have g1:=HS.out.box.cell 0 rfl;have k1:=HS.out.box.free 0;replace HS:=jp (HS.out.put 0 (.int .i64 (a:Int)) (qc':=#[.int .i64 (a:Int),.int .i64 0,.int .i64 0,.int .i64 0,.string ⟨#[]⟩,.int .i64 0]) rfl);replace HM:=jp (HM.out.setO (a:=⟨w.heap.size+1+1,0,none⟩) (by simp) (.int .i64 (a:Int)));have P1:=jp hq1;clear hB hR hq1 K1 hlt1;have K2:=jp (Cp p _ 4 _ HS.out.rs (by omega));go_wp2_with fail;refine K2.out.mono ?_;rintro e v2 ⟨g,o3,rfl,hB,hR,hlt2,hq2⟩;replace HS:=jp (HS.out.read hB hR);replace HM:=jp (HM.out.but hB (by simp;omega));have g2:=HM.out.cell 1 rfl;have k2:=HM.out.free 1;replace HS:=jp (HS.out.setO (a:=⟨w.heap.size+1,1,none⟩) (by have:=HZ0.out;simp only;omega) (by simp only;omega) (by simp) (.int .i64 (g:Int)));replace HM:=jp (HM.out.set 1 (.int .i64 (g:Int)) (cs':=#[.int .i64 (f:Int),.int .i64 (g:Int),.int .i64 0,.int .i64 0,.int .i64 0,.int .i64 0,.string ⟨#[]⟩,.int .i64 0,.slice none 0 0,.slice none 0 0]) rfl);have P2:=jp hq2;clear hB hR hq2 K2;have HG:Hid (g<4294967296):=hlt2;clear hlt2;have K3:=jp (Cp p _ 2 _ HS.out.rs (by omega));go_wp2_with fail;refine K3.out.mono ?_;rintro e v3 ⟨sl,o4,rfl,hB,hR,hlt3,hq3⟩;replace HS:=jp (HS.out.read hB hR);replace HM:=jp (HM.out.but hB (by simp;omega));have g3:=HS.out.box.cell 1 rfl;have k3:=HS.out.box.free 1;replace HS:=jp (HS.out.put 1 (.int .i64 (sl:Int)) (qc':=#[.int .i64 (a:Int),.int .i64 (sl:Int),.int .i64 0,.int .i64 0,.string ⟨#[]⟩,.int .i64 0]) rfl);replace HM:=jp (HM.out.setO (a:=⟨w.heap.size+1+1,1,none⟩) (by simp) (.int .i64 (sl:Int)));have P3:=jp hq3;clear hB hR hq3 K3 hlt3;have K4:=jp (Cp p _ 1 _ HS.out.rs (by omega));go_wp2_with fail;refine K4.out.mono ?_;rintro e v4 ⟨pt,o5,rfl,hB,hR,hlt4,hq4⟩
 replace HS:=jp (HS.out.read hB hR);replace HM:=jp (HM.out.but hB (by simp;omega));have g4:=HS.out.box.cell 2 rfl;have k4:=HS.out.box.free 2;replace HS:=jp (HS.out.put 2 (.int .i64 (pt:Int)) (qc':=#[.int .i64 (a:Int),.int .i64 (sl:Int),.int .i64 (pt:Int),.int .i64 0,.string ⟨#[]⟩,.int .i64 0]) rfl);replace HM:=jp (HM.out.setO (a:=⟨w.heap.size+1+1,2,none⟩) (by simp) (.int .i64 (pt:Int)));have P4:=jp hq4;clear hB hR hq4 K4 hlt4;have K5:=jp (Cp p _ 1 _ HS.out.rs (by omega));go_wp2_with fail;refine K5.out.mono ?_;rintro e v5 ⟨pr,o6,rfl,hB,hR,hlt5,hq5⟩;replace HS:=jp (HS.out.read hB hR);replace HM:=jp (HM.out.but hB (by simp;omega));have g5:=HS.out.box.cell 3 rfl;have k5:=HS.out.box.free 3;replace HS:=jp (HS.out.put 3 (.int .i64 (pr:Int)) (qc':=#[.int .i64 (a:Int),.int .i64 (sl:Int),.int .i64 (pt:Int),.int .i64 (pr:Int),.string ⟨#[]⟩,.int .i64 0]) rfl);replace HM:=jp (HM.out.setO (a:=⟨w.heap.size+1+1,3,none⟩) (by simp) (.int .i64 (pr:Int)));have P5:=jp hq5;clear hB hR hq5 K5 hlt5;have K6:=jp (Hf p _ 16 _ HS.out.rs (by omega));go_wp2_with fail;refine K6.out.mono ?_;rintro e v6 ⟨k,o7,rfl,hB,hR, -,hq6⟩;have S6:=HS.out.read hB hR;have M6:=HM.out.but hB (by simp;omega);have R6:=HR0.out.but S6.1 (by simp;omega);have C6:=S6.box;have m0:=M6.cell 0 rfl;have n0:=M6.free 0;have m1:=M6.cell 1 rfl;have n1:=M6.free 1;have m2:=M6.cell 2 rfl;have n2:=M6.free 2;have m3:=M6.cell 3 rfl;have n3:=M6.free 3;have m4:=M6.cell 4 rfl;have n4:=M6.free 4;have m5:=M6.cell 5 rfl;have n5:=M6.free 5;have m6:=M6.cell 6 rfl;have n6:=M6.free 6;have m7:=M6.cell 7 rfl;have n7:=M6.free 7;have m8:=M6.cell 8 rfl;have n8:=M6.free 8;have m9:=M6.cell 9 rfl;have n9:=M6.free 9;have r0:=R6.cell 0 rfl;have s0:=R6.free 0;have r1:=R6.cell 1 rfl;have s1:=R6.free 1;have r2:=R6.cell 2 rfl;have s2:=R6.free 2;have r3:=R6.cell 3 rfl;have s3:=R6.free 3;have r4:=R6.cell 4 rfl;have s4:=R6.free 4;have r5:=R6.cell 5 rfl;have s5:=R6.free 5;have r6:=R6.cell 6 rfl;have s6:=R6.free 6;have r7:=R6.cell 7 rfl;have s7:=R6.free 7;have r8:=R6.cell 8 rfl;have s8:=R6.free 8;have r9:=R6.cell 9 rfl;have s9:=R6.free 9;have c0:=C6.cell 0 rfl;have d0:=C6.free 0;have c1:=C6.cell 1 rfl;have d1:=C6.free 1;have c2:=C6.cell 2 rfl;have d2:=C6.free 2;have c3:=C6.cell 3 rfl;have d3:=C6.free 3;have c4:=C6.cell 4 rfl;have d4:=C6.free 4;have c5:=C6.cell 5 rfl;have d5:=C6.free 5;have HPX:Hid (o.bind Im=o7.map (Prod.mk (f,g,⟨(a:Int),(sl:Int),(pt:Int),(pr:Int),Ai k,0⟩))):=Bw P0.out (Bw P1.out (Bw P2.out (Bw P3.out (Bw P4.out (Bw P5.out (Bw hq6 (GK _)))))));have HB6:=jp ((Ab.of_bel HB0.out).trans S6.1);have HR6:=jp S6.rs;clear S6 M6 R6 C6 hB hR hq6 P0 P1 P2 P3 P4 P5 HR0 HS HM K6;go_wp2;refine bodyPost_ret (by simp [results,Tryz.results189,go_sem,r0,r1,r2,r3,r4,r5,r6,r7,r8,r9];rfl) rfl ⟨f,g,⟨(a:Int),(sl:Int),(pt:Int),(pr:Int),Ai k,0⟩,o7,rfl,?_,?_,HPX.out,HG.out,HF.out⟩
 ·iterate 17 (refine Ab.setN ?_ (by simp only;omega) _)
  exact HB6.out
 ·iterate 17 (refine Rs.setO ?_ (by simp only;omega) _)
  exact HR6.out
def JE:List Bool→Option ((List UInt8×Nat×Nat×Nat×Nat×Nat)×List Bool):=
 Bo (DU 1) fun t=>Bo (A9 32) fun h=>Bo (A9 8) fun f=>Bo (A9 32) fun c=>Bo (A9 8) fun m=>Bo (A9 16) fun n=>DT (t,h,f,c,m,n)
def F0 (l:List UInt8):Option (Nat×Nat×Nat×Nat×Nat):=(CQ l).bind fun b=>(JE (Az b)).bind fun y=>if BW (some y.2)=true∧y.1.1=[81] then some y.1.2 else none
def DC (h f c m n:Nat):Value:= .agg #[.int .i64 (h:Int),.int .i64 (f:Int),.int .i64 (c:Int),.int .i64 (m:Int),.int .i64 (n:Int)]
def Fl:Option (Nat×Nat×Nat×Nat×Nat)→Value
 |some (h,f,c,m,n)=> .tuple #[DC h f c m n,.bool true]
 |none=> .tuple #[DC 0 0 0 0 0,.bool false]
def ME (w:World) (o:Option (Nat×Nat×Nat×Nat×Nat)) (e:Ending) (w':World):Prop:=e= .returned (Fl o)∧Aa w w'
theorem VF {l:List UInt8} (h:CQ l=none):F0 l=none:=by simp [F0,h]
theorem UY {l b:List UInt8} {o:Option (List Bool)} {t:List UInt8} {h f c m n:Nat} (h1:CQ l=some b) (h2:(some (Az b)).bind JE=o.map (Prod.mk (t,h,f,c,m,n))):F0 l=if BW o=true∧t=[81] then some (h,f,c,m,n) else none:=by
 have h2':JE (Az b)=o.map (Prod.mk (t,h,f,c,m,n)):=h2;rw [F0,h1,Option.bind_some,h2'];cases o with
 |none=>simp [BW]
 |some X=>rfl
theorem UM (t:ByteArray) (w:World) (ht:t.size≤1099511627776):
  Calls Tryz.prog 62 #[.string t] w (ME w (F0 t.data.toList)):=by
 have HR:=jp (Ae.new w 91 #[.int .i64 0,.int .i64 0,.int .i64 0,.int .i64 0,.int .i64 0]);cases hO:CQ t.data.toList with
 |none=>
  rw [VF hO];have H0:=fun wx=>GT t wx ht
  rw [hO] at H0;unfold Ga Gr at H0;go_enter Tryz.func62,Tryz.ntmps62;go_wp2_with fail;refine (H0 _).mono ?_;rintro e w1 ⟨rfl,hb1⟩;have R1:=HR.out.bel hb1;have r0:=R1.cell 0 rfl;have f0:=R1.free 0;have r1:=R1.cell 1 rfl;have f1:=R1.free 1;have r2:=R1.cell 2 rfl;have f2:=R1.free 2;have r3:=R1.cell 3 rfl;have f3:=R1.free 3;have r4:=R1.cell 4 rfl;have f4:=R1.free 4;have HB1:Hid (Aa w w1):=((jD w).step_alloc _).trans hb1;clear R1 HR hb1 H0;go_wp2;refine bodyPost_ret (v:=Fl none) (by simp [Fl,DC,results,Tryz.results62,go_sem,r0,r1,r2,r3,r4]) rfl ⟨rfl,?_⟩;exact ((((HB1.out.step_set (p:=⟨w.heap.size,0,none⟩) (jH _) _).step_set (p:=⟨w.heap.size,1,none⟩) (jH _) _).step_set (p:=⟨w.heap.size,2,none⟩) (jH _) _).step_set (p:=⟨w.heap.size,3,none⟩) (jH _) _).step_set (p:=⟨w.heap.size,4,none⟩) (jH _) _
 |some b=>
  have H0:=fun wx=>GT t wx ht
  rw [hO] at H0;unfold Ga Gr at H0;go_enter Tryz.func62,Tryz.ntmps62;go_wp2_with fail;refine (H0 _).mono ?_;rintro e w1 ⟨rfl,hb1⟩;go_wp2_with fail;refine (JQ _ _).mono ?_;rintro e w2 ⟨rfl,hb2⟩;obtain ⟨W0,hW0⟩:∃W0,W0=w.alloc (.cells #[.int .i64 0,.int .i64 0,.int .i64 0,.int .i64 0,.int .i64 0] 91):=⟨_,rfl⟩;rw [←hW0] at HR hb1;have hS0:=Rs.new w2 b 151;have hB0:Ab [w2.heap.size] W0 (w2.alloc (.cells #[.string (Ai b),.int .u64 0,.bool false] 151)):=Ab.of_bel ((hb1.trans hb2).step_alloc _);have H1:=jp (Hf w2.heap.size _ 1 _ hS0 (by omega));have hp0:W0.heap.size≤w2.heap.size:=(hb1.trans hb2).size;have hrp:Hid (w.heap.size<W0.heap.size):=by show _<_;rw [hW0];simp
  have hw0:Hid (Aa w W0):=by show Aa w W0;rw [hW0];exact (jD w).step_alloc _
  have HB0:=jp hB0;clear hb1 hb2 H0 hS0 hB0 hW0;go_wp2_with fail;refine H1.out.mono ?_;rintro e w3 ⟨l,o1,rfl,hB3,hR3,hl3,hq1⟩;have HS:=jp (St.new (tq:=91) (qc:=#[.int .i64 0,.int .i64 0,.int .i64 0,.int .i64 0,.int .i64 0]) (HB0.out.trans hB3) hR3);have HQ1:=jp hq1;clear hB3 hR3 hl3 hq1 H1 HB0;have K0:=jp (Cp _ _ 4 _ HS.out.rs (by omega));go_wp2_with fail;refine K0.out.mono ?_;rintro e v0 ⟨h,o2,rfl,hB,hR, -,hq0⟩;have HT0:=HS.out.read hB hR;have g0:=HT0.box.cell 0 rfl;have k0:=HT0.box.free 0;replace HS:=jp (HT0.put 0 (.int .i64 (h:Int)) (qc':=#[.int .i64 (h:Int),.int .i64 0,.int .i64 0,.int .i64 0,.int .i64 0]) rfl);have P0:=jp hq0;clear hB hR hq0 K0;have HT:=jp HT0;clear HT0;have K1:=jp (Cp _ _ 1 _ HS.out.rs (by omega));go_wp2_with fail;refine K1.out.mono ?_;rintro e v1 ⟨f,o3,rfl,hB,hR, -,hq1⟩;have HT1:=HS.out.read hB hR;have g1:=HT1.box.cell 1 rfl;have k1:=HT1.box.free 1;replace HS:=jp (HT1.put 1 (.int .i64 (f:Int)) (qc':=#[.int .i64 (h:Int),.int .i64 (f:Int),.int .i64 0,.int .i64 0,.int .i64 0]) rfl);have P1:=jp hq1;clear hB hR hq1 K1;have HT:=jp HT1;clear HT1;have K2:=jp (Cp _ _ 4 _ HS.out.rs (by omega));go_wp2_with fail;refine K2.out.mono ?_;rintro e v2 ⟨c,o4,rfl,hB,hR, -,hq2⟩;have HT2:=HS.out.read hB hR;have g2:=HT2.box.cell 2 rfl;have k2:=HT2.box.free 2;replace HS:=jp (HT2.put 2 (.int .i64 (c:Int)) (qc':=#[.int .i64 (h:Int),.int .i64 (f:Int),.int .i64 (c:Int),.int .i64 0,.int .i64 0]) rfl);have P2:=jp hq2;clear hB hR hq2 K2;have HT:=jp HT2;clear HT2;have K3:=jp (Cp _ _ 1 _ HS.out.rs (by omega));go_wp2_with fail;refine K3.out.mono ?_;rintro e v3 ⟨m,o5,rfl,hB,hR, -,hq3⟩;have HT3:=HS.out.read hB hR;have g3:=HT3.box.cell 3 rfl;have k3:=HT3.box.free 3;replace HS:=jp (HT3.put 3 (.int .i64 (m:Int)) (qc':=#[.int .i64 (h:Int),.int .i64 (f:Int),.int .i64 (c:Int),.int .i64 (m:Int),.int .i64 0]) rfl);have P3:=jp hq3;clear hB hR hq3 K3;have HT:=jp HT3;clear HT3;have K4:=jp (Cp _ _ 2 _ HS.out.rs (by omega));go_wp2_with fail;refine K4.out.mono ?_;rintro e v4 ⟨n,o6,rfl,hB,hR, -,hq4⟩;have HT4:=HS.out.read hB hR;have g4:=HT4.box.cell 4 rfl;have k4:=HT4.box.free 4;replace HS:=jp (HT4.put 4 (.int .i64 (n:Int)) (qc':=#[.int .i64 (h:Int),.int .i64 (f:Int),.int .i64 (c:Int),.int .i64 (m:Int),.int .i64 (n:Int)]) rfl);have P4:=jp hq4;clear hB hR hq4 K4;have HT:=jp HT4;clear HT4;have hfin:Hid (F0 t.data.toList=if BW o6=true∧l=[81] then some (h,f,c,m,n) else none):=UY hO (Bw HQ1.out (Bw P0.out (Bw P1.out (Bw P2.out (Bw P3.out (Bw P4.out (GK _)))))));have hne:w.heap.size≠w3.heap.size:=by have:=hrp.out;have:=HS.out.2.2.2.1;omega
  have HW:Hid (Aa w (v4.setCell ⟨w3.heap.size,4,none⟩ (.int .i64 (n:Int)))):=Ab.belTo hw0.out HS.out.1 (fun j hj=>by have:=hrp.out;simp at hj;omega);have hte:((Ai l).toList==[81])=decide (l=[81]):=KK l [81];clear HQ1 P0 P1 P2 P3 P4;by_cases hl:l=[81]
  rotate_left
  ·have hte2:((Ai l).toList==[81])=false:=by rw [hte];exact jK hl
   rw [if_neg (fun e=>hl e.2)] at hfin;have R9:=HR.out.but HT.out.1 (by have:=hrp.out;simp;omega);have r0:=R9.cell 0 rfl;have f0:=R9.free 0;have r1:=R9.cell 1 rfl;have f1:=R9.free 1;have r2:=R9.cell 2 rfl;have f2:=R9.free 2;have r3:=R9.cell 3 rfl;have f3:=R9.free 3;have r4:=R9.cell 4 rfl;have f4:=R9.free 4;clear R9 hte HS hl HT HR hrp;go_wp2;rw [hfin.out];exact bodyPost_ret (v:=Fl none) (by simp [Fl,DC,results,Tryz.results62,go_sem,r0,r1,r2,r3,r4]) rfl ⟨rfl,HW.out.sets5 (jH _) _ _ _ _ _⟩
  ·subst hl;have H9:=jp (I7 _ _ _ HS.out.rs);have HQ:=jp HS.out.box;have hte2:((Ai [81]).toList==[81])=true:=by rw [hte];simp
   have HR9:=jp (HR.out.but HS.out.1 (by have:=hrp.out;simp;omega));clear hte HS HT HR hrp;go_wp2_with fail;refine H9.out.mono ?_;rintro e w9 ⟨rfl,hb9⟩;have R9:=HR9.out.bel hb9;have Q9:=HQ.out.bel hb9;have r0:=R9.cell 0 rfl;have f0:=R9.free 0;have r1:=R9.cell 1 rfl;have f1:=R9.free 1;have r2:=R9.cell 2 rfl;have f2:=R9.free 2;have r3:=R9.cell 3 rfl;have f3:=R9.free 3;have r4:=R9.cell 4 rfl;have f4:=R9.free 4;have a0:=Q9.cell 0 rfl;have b0:=Q9.free 0;have a1:=Q9.cell 1 rfl;have b1:=Q9.free 1;have a2:=Q9.cell 2 rfl;have b2:=Q9.free 2;have a3:=Q9.cell 3 rfl;have b3:=Q9.free 3;have a4:=Q9.cell 4 rfl;have b4:=Q9.free 4;replace HW:=jp (HW.out.trans hb9);clear R9 Q9 HR9 HQ hb9 H9 g0 g1 g2 g3 g4 k0 k1 k2 k3 k4;cases hx:BW o6
   ·rw [if_neg (fun e=>by rw [hx] at e;exact absurd e.1 (by simp))] at hfin;go_wp2;rw [hfin.out];exact bodyPost_ret (v:=Fl none) (by simp [Fl,DC,results,Tryz.results62,go_sem,r0,r1,r2,r3,r4]) rfl ⟨rfl,HW.out.sets5 (jH _) _ _ _ _ _⟩
   ·rw [if_pos ⟨hx,(by simp)⟩] at hfin;go_wp2;rw [hfin.out];exact bodyPost_ret (v:=Fl (some (h,f,c,m,n))) (by simp [Fl,DC,results,Tryz.results62,go_sem,r0,r1,r2,r3,r4]) rfl ⟨rfl,HW.out.sets5 (jH _) _ _ _ _ _⟩
end Go.Proofs.YtpapdkhjdelfcabGreat
