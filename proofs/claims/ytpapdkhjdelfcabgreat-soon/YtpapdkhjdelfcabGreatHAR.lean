import Derived.Test.YtpapdkhjdelfcabGreatHAQ
set_option maxRecDepth 100000
set_option maxHeartbeats 4000000
namespace Go.Proofs.YtpapdkhjdelfcabGreat
open Go.RowKit
def ServE (B:List BK) (x:Int):Prop:=∃(j:Nat) (h:j<B.length),x=(j:Int)∧0<B[j].2
theorem serves_is (q:Nat) (c:Cfg) (vP vE:Value) (B:List BK) (x:Int) (w:World) (hT:TabAt w q c vP vE) (hP:PoolAt w vP B):
  Calls Tryz.prog 236 #[.pointer (some ⟨q,0,none⟩),.int .i64 x] w (RRight (ServE B x) w):=by
 obtain ⟨-,h6, -⟩:=hT;obtain ⟨ao,cap,rfl,hc⟩:=hP.open;by_cases hx:0≤x
 ·obtain ⟨j,rfl⟩:∃j:Nat,x=(j:Int):=⟨x.toNat,by omega⟩;clear hx;by_cases hj:j<B.length
  ·obtain ⟨g,rfl,c0,c1⟩:=hc j hj
   have HS:Hid (ServE B (j:Int)↔0<B[j].2):=by
    show _↔_;refine ⟨fun ⟨i,hi,h1,h2⟩=>?_,fun h=>⟨j,hj,rfl,h⟩⟩;obtain rfl:i=j:=by omega
    exact h2
   clear hc c0;generalize B[j].2=wt at *;go_enter Tryz.func236,Tryz.ntmps236;go_wp2;go_ret;exact ⟨decide (0<wt),rfl,by (repeat (first|exact Bel.refl _|assumption|refine Bel.step_alloc ?_ _|refine Bel.step_drew ?_|refine Bel.step_drewN ?_ _|refine Bel.step_set ?_ (by simp <;>omega) _|refine Bel.trans ?_ (by assumption))),by rw [decide_eq_true_iff];exact HS.out.symm⟩
  ·have HS:Hid (¬ServE B (j:Int)):=fun ⟨i,hi,h1,h2⟩=>by omega
   clear hc;go_enter Tryz.func236,Tryz.ntmps236;go_wp2;go_ret;exact ⟨false,rfl,by (repeat (first|exact Bel.refl _|assumption|refine Bel.step_alloc ?_ _|refine Bel.step_drew ?_|refine Bel.step_drewN ?_ _|refine Bel.step_set ?_ (by simp <;>omega) _|refine Bel.trans ?_ (by assumption))),⟨fun h=>(by cases h),fun h=>absurd h HS.out⟩⟩
 ·have HS:Hid (¬ServE B x):=fun ⟨i,hi,h1,h2⟩=>by omega
  have hx2:x<0:=by omega
  clear hc hx;go_enter Tryz.func236,Tryz.ntmps236;go_wp2;go_ret;exact ⟨false,rfl,by (repeat (first|exact Bel.refl _|assumption|refine Bel.step_alloc ?_ _|refine Bel.step_drew ?_|refine Bel.step_drewN ?_ _|refine Bel.step_set ?_ (by simp <;>omega) _|refine Bel.trans ?_ (by assumption))),⟨fun h=>(by cases h),fun h=>absurd h HS.out⟩⟩
def Up2 (a b:EI):Prop:=¬(b.1<a.1∨(a.1=b.1∧b.2<a.2))
def RiseE (E:List EI):Prop:=∀i (h:i+1<E.length),Up2 E[i] E[i+1]
theorem rises_is (E:List EI) (v:Value) (w:World) (hP:EIAt w v E) (hB:E.length≤1048576):
  Calls Tryz.prog 237 #[v] w (RRight (RiseE E) w):=by
 obtain ⟨ao,cap,rfl,hc⟩:=hP.open;go_enter Tryz.func237,Tryz.ntmps237;go_wp2;go_loopg [3] E.length (fun r n wr=>Bel w wr∧∃k:Nat,r=E.length - k∧n= .int .i64 ((k:Int)+1)∧k≤E.length∧∀i (h:i+1<E.length),i<k→Up2 E[i] E[i+1])
 case atStart=>exact ⟨Bel.refl _,0,by omega,rfl,by omega,fun i h hi=>by omega⟩
 case round=>
  obtain ⟨hb,k,hr,rfl,hk,hall⟩:=hrel;have HA:=Hid.mk hall;clear hall;by_cases hlt:k+1<E.length
  ·obtain ⟨g,rfl,c0,c1⟩:=hc k (by omega);obtain ⟨g',hgg,d0,d1⟩:=hc (k+1) hlt;cases hgg;have c0':=hb.cell c0;have c1':=hb.cell c1;have d0':=hb.cell d0;have d1':=hb.cell d1;have hglt:g<wr.heap.size:=World.block_lt_of_cell? wr _ c0';have HN:Hid (RiseE E→Up2 E[k] E[k+1]):=fun h=>h k hlt
   have HY:Hid (Up2 E[k] E[k+1]→∀i (h:i+1<E.length),i<k+1→Up2 E[i] E[i+1]):=fun h0 i h hi=>by
    by_cases hik:i=k
    ·subst hik;exact h0
    ·exact HA.out i h (by omega)
   clear hc c0 c1 d0 d1 HA;unfold Up2 at HN HY;generalize E[k].1=a1 at *;generalize E[k].2=a2 at *;generalize E[k+1].1=b1 at *;generalize E[k+1].2=b2 at *;have hki:((k:Int)+1<(E.length:Int)):=by omega
   by_cases h1:b1<a1
   ·replace HN:Hid (¬RiseE E):=fun h=>HN.out h (Or.inl h1)
    go_wp2;go_ret;exact ⟨false,rfl,by (repeat (first|exact Bel.refl _|assumption|refine Bel.step_alloc ?_ _|refine Bel.step_drew ?_|refine Bel.step_drewN ?_ _|refine Bel.step_set ?_ (by simp <;>omega) _|refine Bel.trans ?_ (by assumption))),⟨fun h=>(by cases h),fun h=>absurd h HN.out⟩⟩
   ·have h1b:decide (b1<a1)=false:=decide_eq_false h1;have HH1:=Hid.mk h1;clear h1;cases h2:(a1==b1)
    ·have HH2:Hid (a1≠b1):=fun e=>by rw [e] at h2;simp at h2
     go_wp2_with fail;go_roundg (E.length - (k+1))
     case measure=>omega
     case rel=>exact ⟨by (repeat (first|exact Bel.refl _|assumption|refine Bel.step_alloc ?_ _|refine Bel.step_drew ?_|refine Bel.step_drewN ?_ _|refine Bel.step_set ?_ (by simp <;>omega) _|refine Bel.trans ?_ (by assumption))),k+1,rfl,by go_num,by omega,HY.out (fun h=>by have q1:=HH1.out;have q2:a1≠b1:=HH2.out;omega)⟩
    ·have HH2:Hid (a1=b1):=by show a1=b1;simpa using h2
     by_cases h3:b2<a2
     ·replace HN:Hid (¬RiseE E):=fun h=>HN.out h (Or.inr ⟨HH2.out,h3⟩)
      go_wp2;go_ret;exact ⟨false,rfl,by (repeat (first|exact Bel.refl _|assumption|refine Bel.step_alloc ?_ _|refine Bel.step_drew ?_|refine Bel.step_drewN ?_ _|refine Bel.step_set ?_ (by simp <;>omega) _|refine Bel.trans ?_ (by assumption))),⟨fun h=>(by cases h),fun h=>absurd h HN.out⟩⟩
     ·have h3b:decide (b2<a2)=false:=decide_eq_false h3;have HH3:=Hid.mk h3;clear h3;go_wp2_with fail;go_roundg (E.length - (k+1))
      case measure=>omega
      case rel=>exact ⟨by (repeat (first|exact Bel.refl _|assumption|refine Bel.step_alloc ?_ _|refine Bel.step_drew ?_|refine Bel.step_drewN ?_ _|refine Bel.step_set ?_ (by simp <;>omega) _|refine Bel.trans ?_ (by assumption))),k+1,rfl,by go_num,by omega,HY.out (fun h=>by have q1:=HH1.out;have q3:=HH3.out;omega)⟩
  ·have HE:Hid (RiseE E):=fun i h=>HA.out i h (by omega)
   have hki:¬((k:Int)+1<(E.length:Int)):=by omega
   clear hc HA;go_wp2;go_ret;exact ⟨true,rfl,by (repeat (first|exact Bel.refl _|assumption|refine Bel.step_alloc ?_ _|refine Bel.step_drew ?_|refine Bel.step_drewN ?_ _|refine Bel.step_set ?_ (by simp <;>omega) _|refine Bel.trans ?_ (by assumption))),⟨fun _=>HE.out,fun _=>rfl⟩⟩
def cntE (E:List EI) (k:Nat):Nat:=E.countP fun e=>e.2==(k:Int)
def AllOwn (c:Cfg) (B:List BK) (E:List EI):Prop:=∀j (h:j<B.length),(cntE E j:Int)=eachF c * B[j].2
theorem cntE_take (E:List EI) (k i:Nat) (h:i<E.length):cntE (E.take (i+1)) k=cntE (E.take i) k+(if E[i].2==(k:Int) then 1 else 0):=by
 rw [List.take_succ_eq_append_getElem h,cntE,cntE,List.countP_append];simp [List.countP_cons]
theorem cntE_le (E:List EI) (k i:Nat):cntE (E.take i) k≤E.length:=Nat.le_trans List.countP_le_length (List.length_take_le' _ _)
theorem allown_is (q:Nat) (c:Cfg) (vP vE:Value) (B:List BK) (E:List EI) (w:World) (hT:TabAt w q c vP vE) (hP:PoolAt w vP B) (hE:EIAt w vE E) (hB:PoolOK B) (hlen:E.length≤1048576) (hc:c.TOK):
  Calls Tryz.prog 238 #[.pointer (some ⟨q,0,none⟩)] w (RRight (AllOwn c B E) w):=by
 have hel:=eachF_le hc;have hea:=fun wx=>each_is c wx
 have hAO:∀j (h:j<B.length),AllOwn c B E→(cntE E j:Int)=eachF c * B[j].2:=fun j h k=>k j h
 have HAO:=Hid.mk hAO;have HFin:Hid ((∀j (h:j<B.length),(cntE E j:Int)=eachF c * B[j].2)→AllOwn c B E):=fun h=>h
 clear hAO;have HT:=Hid.mk hT;generalize eachF c=ea at *;obtain ⟨⟨t0,t1,t2,t3,t4,t5⟩,t6,t7⟩:=hT;obtain ⟨aP,capP,rfl,hcP⟩:=hP.open;obtain ⟨aE,capE,rfl,hcE⟩:=hE.open;obtain ⟨h8,hall⟩:=hB;obtain ⟨b1,b2⟩:=hel;obtain ⟨alg,slots,points,probes,key,formats⟩:=c;simp only [Cfg.cells] at *;clear hP hE hc HT;go_enter Tryz.func238,Tryz.ntmps238;go_wp2;go_loopg [13] B.length (fun r n wr=>Bel w wr∧∃k:Nat,r=B.length - k∧k≤B.length∧n= .int .i64 k∧∀j (h:j<B.length),j<k→(cntE E j:Int)=ea * B[j].2)
 case atStart=>exact ⟨Bel.refl _,0,by omega,by omega,rfl,fun j h hj=>by omega⟩
 case round=>
  obtain ⟨hb,k,hr,hk,rfl,hA⟩:=hrel;have HA:=Hid.mk hA;clear hA;by_cases hlt:k<B.length
  ·obtain ⟨g,rfl,c0,c1⟩:=hcP k hlt;have c0':=hb.cell c0;have c1':=hb.cell c1;have hwt:=(hall _ (List.getElem_mem hlt)).2.2;have HN:Hid (AllOwn ⟨alg,slots,points,probes,key,formats⟩ B E→(cntE E k:Int)=ea * B[k].2):=HAO.out k hlt
   have HY:Hid ((cntE E k:Int)=ea * B[k].2→∀j (h:j<B.length),j<k+1→(cntE E j:Int)=ea * B[j].2):=fun h0 j h hj=>by
    by_cases hjk:j=k
    ·subst hjk;exact h0
    ·exact HA.out j h (by omega)
   clear HA c0 c1;generalize B[k].1=idk at *;generalize B[k].2=wk at *;obtain ⟨w1,w2⟩:=hwt;obtain ⟨Wb,hWb⟩:∃Wb,Wb=wr.alloc (.cells #[.string idk,.int .i64 wk] 75):=⟨_,rfl⟩;have hbb:Bel w Wb:=by rw [hWb];exact hb.step_alloc _
   have HXb:Hid (BoxC wr.heap.size 75 #[.string idk,.int .i64 wk] Wb):=by show BoxC _ _ _ Wb;rw [hWb];exact BoxC.new _ _ _
   have s7:=hb.cell t7;have hqlt:q<wr.heap.size:=World.block_lt_of_cell? wr _ s7;go_wp2_with fail;rw [←hWb];clear hWb;go_loopg [5,23] E.length (fun r s n wi=>Bel Wb wi∧∃i:Nat,r=E.length - i∧i≤E.length∧n= .int .i64 i∧s= .int .i64 (cntE (E.take i) k:Int))
   case atStart=>exact ⟨Bel.refl _,0,by omega,by omega,rfl,by simp [cntE]⟩
   case round=>
    obtain ⟨hbi,i,hri,hi,rfl,rfl⟩:=hrel;have hcl:=cntE_le E k i;by_cases hil:i<E.length
    ·obtain ⟨ge,rfl,e0,e1⟩:=hcE i hil;have e0':=(hbb.trans hbi).cell e0;have e1':=(hbb.trans hbi).cell e1;have HS:Hid (cntE (E.take (i+1)) k=cntE (E.take i) k+(if E[i].2==(k:Int) then 1 else 0)):=cntE_take E k i hil;clear e0 e1;generalize E[i].1=pt at *;generalize E[i].2=ow at *;generalize cntE (E.take i) k=cn at *;cases ho:(ow==(k:Int))
     ·rw [ho] at HS;go_wp2_with fail;go_roundg (E.length - (i+1))
      case measure=>omega
      case rel=>exact ⟨by (repeat (first|exact Bel.refl _|assumption|refine Bel.step_alloc ?_ _|refine Bel.step_drew ?_|refine Bel.step_drewN ?_ _|refine Bel.step_set ?_ (by simp <;>omega) _|refine Bel.trans ?_ (by assumption))),i+1,rfl,by omega,by go_num,by rw [HS.out];simp⟩
     ·rw [ho] at HS;go_wp2_with fail;go_roundg (E.length - (i+1))
      case measure=>omega
      case rel=>exact ⟨by (repeat (first|exact Bel.refl _|assumption|refine Bel.step_alloc ?_ _|refine Bel.step_drew ?_|refine Bel.step_drewN ?_ _|refine Bel.step_set ?_ (by simp <;>omega) _|refine Bel.trans ?_ (by assumption))),i+1,rfl,by omega,by go_num,by rw [HS.out];simp⟩
    ·have hii:i=E.length:=by omega
     have hte:E.take i=E:=List.take_of_length_le (by omega);rw [hte];rw [hte] at hcl;have X:=HXb.out.bel hbi;have x1:=X.cell 1 rfl;have hbw:=hbb.trans hbi;have u0:=hbw.cell t0;have u1:=hbw.cell t1;have u2:=hbw.cell t2;have u3:=hbw.cell t3;have u4:=hbw.cell t4;have u5:=hbw.cell t5;have HBW:=Hid.mk hbw;have hm:0≤ea * wk:=Int.mul_nonneg (by omega) (by omega)
     have hm2:ea * wk≤18:=by
      have:ea * wk≤3 * 6:=Int.mul_le_mul b2 w2 w1 (by omega);omega
     have hwm:IntKind.i64.wrap (ea * wk)=ea * wk:=by rw [IntKind.wrap_i64];omega
     clear hte hii X hcE hcP hbi hbb t0 t1 t2 t3 t4 t5 t6 t7 s7;generalize cntE E k=cn at *;cases hq:((cn:Int) !=ea * wk)
     ·have HQ:Hid ((cn:Int)=ea * wk):=by show _=_;simpa using hq
      go_wp2_with fail;go_region_with (go_at_call 143;refine (hea _).mono ?_;rintro e w9 ⟨rfl,hb9x⟩;have hb9:Bel wr w9:=(by first|exact hb9x|exact (Bel.step_drew (Bel.refl wr)).trans hb9x);have x9:=hb9.cell x1;have HB9:=Hid.mk (HBW.out.trans hb9);clear hb9x hb9)
      all_goals
       go_wp2_with fail;go_roundg (B.length - (k+1))
       case measure=>omega
       case rel=>exact ⟨HB9.out,k+1,rfl,by omega,by go_num,HY.out HQ.out⟩
     ·have HQ:Hid (¬(cn:Int)=ea * wk):=by show ¬_;simpa using hq
      go_wp2_with fail;go_region_with (go_at_call 143;refine (hea _).mono ?_;rintro e w9 ⟨rfl,hb9x⟩;have hb9:Bel wr w9:=(by first|exact hb9x|exact (Bel.step_drew (Bel.refl wr)).trans hb9x);have x9:=hb9.cell x1;have HB9:=Hid.mk (HBW.out.trans hb9);clear hb9x hb9)
      all_goals
       go_wp2;go_ret;exact ⟨false,rfl,HB9.out,⟨fun h=>(by cases h),fun h=>absurd (HN.out h) HQ.out⟩⟩
  ·have HE:Hid (AllOwn ⟨alg,slots,points,probes,key,formats⟩ B E):=HFin.out (fun j h=>HA.out j h (by omega));clear hcP hcE HA;go_wp2;go_ret;exact ⟨true,rfl,by (repeat (first|exact Bel.refl _|assumption|refine Bel.step_alloc ?_ _|refine Bel.step_drew ?_|refine Bel.step_drewN ?_ _|refine Bel.step_set ?_ (by simp <;>omega) _|refine Bel.trans ?_ (by assumption))),⟨fun _=>HE.out,fun _=>rfl⟩⟩
end Go.Proofs.YtpapdkhjdelfcabGreat
