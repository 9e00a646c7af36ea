import Derived.Test.YtpapdkhjdelfcabGreatHAS
import Derived.Test.YtpapdkhjdelfcabGreatHAO
set_option maxRecDepth 100000
set_option maxHeartbeats 4000000
namespace Go.Proofs.YtpapdkhjdelfcabGreat
open Go.RowKit
abbrev Ans:=Nat×Nat×Nat×Nat×Nat×List UInt8
def answX (N:Nat):List Bool→Option ((List UInt8×Ans)×List Bool):=
 thenP (textP 1) fun t=>thenP (numP 8) fun k=>if k=1 then thenP (numP 32) fun g=>thenP (numP 8) fun f=>thenP (numP 16) fun c=>thenP (numP 16) fun n=>thenP (textP N) fun s=>doneP (t,1,g,f,c,n,s) else doneP (t,k,0,0,0,0,[])
def ansOK (a:Ans):Prop:=a.1=0∨a.1=2∨(a.1=1∧1≤a.2.2.2.2.2.length∧a.2.2.2.2.2.length≤48)
def decAns (a:Ans):Decidable (ansOK a):=inferInstanceAs (Decidable (a.1=0∨a.1=2∨(a.1=1∧1≤a.2.2.2.2.2.length∧a.2.2.2.2.2.length≤48)))
def answP (l:List UInt8):Option Ans:=(openB l).bind fun b=>(answX (b.length - 11) (bytesBits b)).bind fun y=>haveI:=decAns y.1.2;if endP (some y.2)=true∧y.1.1=[65]∧ansOK y.1.2 then some y.1.2 else none
def ansA (a:Ans):Value:= .agg #[.int .i64 (a.1:Int),.int .i64 (a.2.1:Int),.int .i64 (a.2.2.1:Int),.int .i64 (a.2.2.2.1:Int),.int .i64 (a.2.2.2.2.1:Int),.string (txt a.2.2.2.2.2)]
def ansV:Option Ans→Value
 |some a=> .tuple #[ansA a,.bool true]
 |none=> .tuple #[ansA (0,0,0,0,0,[]),.bool false]
def RAns (w:World) (o:Option Ans) (e:Ending) (w':World):Prop:=e= .returned (ansV o)∧Bel w w'
theorem txt_nil:txt []=⟨#[]⟩:=rfl
theorem answP_no {l:List UInt8} (h:openB l=none):answP l=none:=by simp [answP,h]
theorem answP_is {l b:List UInt8} {o:Option (List Bool)} {t:List UInt8} {a:Ans} (h1:openB l=some b) (h2:(some (bytesBits b)).bind (answX (b.length - 11))=o.map (Prod.mk (t,a))):answP l=haveI:=decAns a;if endP o=true∧t=[65]∧ansOK a then some a else none:=by
 have h2':answX (b.length - 11) (bytesBits b)=o.map (Prod.mk (t,a)):=h2;rw [answP,h1,Option.bind_some,h2'];cases o with
 |none=>simp [endP]
 |some X=>rfl
theorem Bel.sets6 {w V:World} {r:Nat} (h:Bel w V) (hr:w.heap.size≤r) (u0 u1 u2 u3 u4 u5:Value):Bel w ((((((V.setCell ⟨r,0,none⟩ u0).setCell ⟨r,1,none⟩ u1).setCell ⟨r,2,none⟩ u2).setCell ⟨r,3,none⟩ u3).setCell ⟨r,4,none⟩ u4).setCell ⟨r,5,none⟩ u5):=
 (h.sets5 hr u0 u1 u2 u3 u4).step_set (p:=⟨r,5,none⟩) hr _
theorem ansr_is (q k:Nat) (v1 v2 v3 v4:Value) (a:Ans) (w:World) (h:BoxC q 97 #[.int .i64 (k:Int),v1,v2,v3,v4,.string (txt a.2.2.2.2.2)] w) (hk:a.1=k):
  Calls Tryz.prog 125 #[.pointer (some ⟨q,0,none⟩)] w (RRight (ansOK a) w):=by
 have c0:=h.cell 0 rfl;have c5:=h.cell 5 rfl;have hsz:(txt a.2.2.2.2.2).size=a.2.2.2.2.2.length:=by simp [txt,ByteArray.size]
 have HP:Hid (ansOK a↔(k=0∨k=2∨(k=1∧1≤(txt a.2.2.2.2.2).size∧(txt a.2.2.2.2.2).size≤48))):=by show _↔_;rw [hsz,←hk];rfl
 clear h hsz hk;generalize txt a.2.2.2.2.2=s at *;by_cases k0:k=0
 ·subst k0;replace c0:w.cell? ⟨q,0,none⟩=some (.int .i64 0):=c0;go_enter Tryz.func125,Tryz.ntmps125;go_wp2;go_ret;exact ⟨true,rfl,by (repeat (first|exact Bel.refl _|assumption|refine Bel.step_alloc ?_ _|refine Bel.step_drew ?_|refine Bel.step_drewN ?_ _|refine Bel.step_set ?_ (by simp <;>omega) _|refine Bel.trans ?_ (by assumption))),⟨fun _=>HP.out.2 (by simp),fun _=>rfl⟩⟩
 by_cases k2:k=2
 ·subst k2;replace c0:w.cell? ⟨q,0,none⟩=some (.int .i64 2):=c0;go_enter Tryz.func125,Tryz.ntmps125;go_wp2;go_ret;exact ⟨true,rfl,by (repeat (first|exact Bel.refl _|assumption|refine Bel.step_alloc ?_ _|refine Bel.step_drew ?_|refine Bel.step_drewN ?_ _|refine Bel.step_set ?_ (by simp <;>omega) _|refine Bel.trans ?_ (by assumption))),⟨fun _=>HP.out.2 (by simp),fun _=>rfl⟩⟩
 by_cases k1:k=1
 ·subst k1;replace c0:w.cell? ⟨q,0,none⟩=some (.int .i64 1):=c0;clear k0 k2;by_cases h1:1≤s.size
  ·go_enter Tryz.func125,Tryz.ntmps125;go_wp2;go_ret
   exact ⟨decide ((s.size : Int) ≤ 48), rfl, by (repeat (first | exact Bel.refl _ | assumption | refine Bel.step_alloc ?_ _ | refine Bel.step_drew ?_ | refine Bel.step_drewN ?_ _ | refine Bel.step_set ?_ (by simp <;> omega) _ | refine Bel.trans ?_ (by assumption))), ⟨fun h => HP.out.2 (by have h2 := of_decide_eq_true h; simp; omega), fun h => by
     rcases HP.out.1 h with h | h | h
     · omega
     · omega
     · exact decide_eq_true (by omega)⟩⟩
  ·go_enter Tryz.func125,Tryz.ntmps125;go_wp2;go_ret;exact ⟨false,rfl,by (repeat (first|exact Bel.refl _|assumption|refine Bel.step_alloc ?_ _|refine Bel.step_drew ?_|refine Bel.step_drewN ?_ _|refine Bel.step_set ?_ (by simp <;>omega) _|refine Bel.trans ?_ (by assumption))),⟨fun h=>(by cases h),fun h=>by rcases HP.out.1 h with h|h|h <;>omega⟩⟩
 ·have e0:((k:Int)==0)=false:=by simp [k0]
  have e2:((k:Int)==2)=false:=by simp;omega
  have e1:((k:Int)==1)=false:=by simp;omega
  go_enter Tryz.func125,Tryz.ntmps125;go_wp2;go_ret;exact ⟨false,rfl,by (repeat (first|exact Bel.refl _|assumption|refine Bel.step_alloc ?_ _|refine Bel.step_drew ?_|refine Bel.step_drewN ?_ _|refine Bel.step_set ?_ (by simp <;>omega) _|refine Bel.trans ?_ (by assumption))),⟨fun h=>(by cases h),fun h=>by rcases HP.out.1 h with h|h|h <;>omega⟩⟩
theorem reada_is (t:ByteArray) (w:World) (ht:t.size≤1099511627776):
  Calls Tryz.prog 65 #[.string t] w (RAns w (answP t.data.toList)):=by
 have HR:=Hid.mk (BoxC.new w 97 #[.int .i64 0,.int .i64 0,.int .i64 0,.int .i64 0,.int .i64 0,.string ⟨#[]⟩]);cases hO:openB t.data.toList with
 |none=>
  rw [answP_no hO];have H0:=fun wx=>opened_is t wx ht
  rw [hO] at H0;unfold ROpen openV at H0;go_enter Tryz.func65,Tryz.ntmps65;go_wp2_with fail;refine (H0 _).mono ?_;rintro e w1 ⟨rfl,hb1⟩;have R1:=HR.out.bel hb1;have r0:=R1.cell 0 rfl;have f0:=R1.free 0;have r1:=R1.cell 1 rfl;have f1:=R1.free 1;have r2:=R1.cell 2 rfl;have f2:=R1.free 2;have r3:=R1.cell 3 rfl;have f3:=R1.free 3;have r4:=R1.cell 4 rfl;have f4:=R1.free 4;have r5:=R1.cell 5 rfl;have f5:=R1.free 5;have HB1:Hid (Bel w w1):=((Bel.refl w).step_alloc _).trans hb1;clear R1 HR hb1 H0;go_wp2;exact bodyPost_ret (v:=ansV none) (by simp [ansV,ansA,txt_nil,results,Tryz.results65,go_sem,r0,r1,r2,r3,r4,r5]) rfl ⟨rfl,HB1.out.sets6 (Nat.le_refl _) _ _ _ _ _ _⟩
 |some b=>
  have hbl:Hid ((txt b).size=b.length):=by show _=_;simp [txt,ByteArray.size]
  have hbs:Hid (b.length≤t.size):=by
   show _≤_;unfold openB at hO;split at hO
   ·cases hO
   ·split at hO
    ·injection hO with e
     rw [←e,List.length_take];have:t.data.toList.length=t.size:=by rw [Array.length_toList];rfl
     omega
    ·cases hO
  have H0:=fun wx=>opened_is t wx ht
  rw [hO] at H0;unfold ROpen openV at H0;go_enter Tryz.func65,Tryz.ntmps65;go_wp2_with fail;refine (H0 _).mono ?_;rintro e w1 ⟨rfl,hb1⟩;go_wp2_with fail;refine (read_is _ _).mono ?_;rintro e w2 ⟨rfl,hb2⟩;obtain ⟨W0,hW0⟩:∃W0,W0=w.alloc (.cells #[.int .i64 0,.int .i64 0,.int .i64 0,.int .i64 0,.int .i64 0,.string ⟨#[]⟩] 97):=⟨_,rfl⟩;rw [←hW0] at HR hb1;have hS0:=Rs.new w2 b 151;have hB0:But [w2.heap.size] W0 (w2.alloc (.cells #[.string (txt b),.int .u64 0,.bool false] 151)):=But.of_bel ((hb1.trans hb2).step_alloc _);have H1:=Hid.mk (rtext_p w2.heap.size _ 1 _ hS0 (by omega));have hp0:W0.heap.size≤w2.heap.size:=(hb1.trans hb2).size;have hrp:Hid (w.heap.size<W0.heap.size):=by show _<_;rw [hW0];simp
  have hw0:Hid (Bel w W0):=by show Bel w W0;rw [hW0];exact (Bel.refl w).step_alloc _
  have HB0:=Hid.mk hB0;clear hb1 hb2 H0 hS0 hB0 hW0;go_wp2_with fail;refine H1.out.mono ?_;rintro e w3 ⟨l,o1,rfl,hB3,hR3,hl3,hq1⟩;have HS:=Hid.mk (St.new (tq:=97) (qc:=#[.int .i64 0,.int .i64 0,.int .i64 0,.int .i64 0,.int .i64 0,.string ⟨#[]⟩]) (HB0.out.trans hB3) hR3);have HQ1:=Hid.mk hq1;have hte:((txt l).toList==[65])=decide (l=[65]):=txt_is l [65];clear hB3 hR3 hl3 hq1 H1 HB0;have K0:=Hid.mk (rint_p _ _ 1 _ HS.out.rs (by omega));go_wp2_with fail;refine K0.out.mono ?_;rintro e v0 ⟨k,o2,rfl,hB,hR, -,hq0⟩;have HT0:=HS.out.read hB hR;have g0:=HT0.box.cell 0 rfl;have k0:=HT0.box.free 0;replace HS:=Hid.mk (HT0.put 0 (.int .i64 (k:Int)) (qc':=#[.int .i64 (k:Int),.int .i64 0,.int .i64 0,.int .i64 0,.int .i64 0,.string ⟨#[]⟩]) rfl);have P0:=Hid.mk hq0;clear hB hR hq0 K0;have HT:=Hid.mk HT0;clear HT0;by_cases hk1:k=1
  rotate_left
  ·have e1:((k:Int)==1)=false:=by simp;omega
   have PX:Hid ((some (bytesBits b)).bind (answX (b.length - 11))=o2.map (Prod.mk (l,(k,0,0,0,0,[])))):=by
    refine then_step HQ1.out (then_step P0.out ?_);rw [if_neg hk1];exact done_step _
   clear HQ1 P0 hbl hbs hk1;have hfin:Hid (answP t.data.toList=haveI:=decAns (k,0,0,0,0,[]);if endP o2=true∧l=[65]∧ansOK (k,0,0,0,0,[]) then some (k,0,0,0,0,[]) else none):=answP_is hO (PX.out);have hne:w.heap.size≠w3.heap.size:=by have:=hrp.out;have:=HS.out.2.2.2.1;omega
   have HW:Hid (Bel w (v0.setCell ⟨w3.heap.size,0,none⟩ (.int .i64 (k:Int)))):=But.belTo hw0.out HS.out.1 (fun j hj=>by have:=hrp.out;simp at hj;omega);by_cases hl:l=[65]
   rotate_left
   ·have hte2:((txt l).toList==[65])=false:=by rw [hte];exact decide_eq_false hl
    rw [if_neg (fun e=>hl e.2.1)] at hfin;have R9:=HR.out.but HT.out.1 (by have:=hrp.out;simp;omega);have r0:=R9.cell 0 rfl;have f0:=R9.free 0;have r1:=R9.cell 1 rfl;have f1:=R9.free 1;have r2:=R9.cell 2 rfl;have f2:=R9.free 2;have r3:=R9.cell 3 rfl;have f3:=R9.free 3;have r4:=R9.cell 4 rfl;have f4:=R9.free 4;have r5:=R9.cell 5 rfl;have f5:=R9.free 5;clear R9 hte HS hl HT HR hrp;go_wp2;rw [hfin.out];exact bodyPost_ret (v:=ansV none) (by simp [ansV,ansA,txt_nil,results,Tryz.results65,go_sem,r0,r1,r2,r3,r4,r5]) rfl ⟨rfl,HW.out.sets6 (Nat.le_refl _) _ _ _ _ _ _⟩
   ·subst hl;have H9:=Hid.mk (rover_p _ _ _ HS.out.rs);have HQ:=Hid.mk HS.out.box;have hte2:((txt [65]).toList==[65])=true:=by rw [hte];simp
    have HR9:=Hid.mk (HR.out.but HS.out.1 (by have:=hrp.out;simp;omega));clear hte HS HT HR hrp;go_wp2_with fail;refine H9.out.mono ?_;rintro e w9 ⟨rfl,hb9⟩;replace HR9:=Hid.mk (HR9.out.bel hb9);replace HQ:=Hid.mk (HQ.out.bel hb9);replace HW:=Hid.mk (HW.out.trans hb9);clear hb9 H9 g0 k0;cases hx:endP o2
    ·rw [if_neg (fun e=>by rw [hx] at e;exact absurd e.1 (by simp))] at hfin;have R9:=HR9.out;have r0:=R9.cell 0 rfl;have f0:=R9.free 0;have r1:=R9.cell 1 rfl;have f1:=R9.free 1;have r2:=R9.cell 2 rfl;have f2:=R9.free 2;have r3:=R9.cell 3 rfl;have f3:=R9.free 3;have r4:=R9.cell 4 rfl;have f4:=R9.free 4;have r5:=R9.cell 5 rfl;have f5:=R9.free 5;clear R9 HR9 HQ;go_wp2;rw [hfin.out];exact bodyPost_ret (v:=ansV none) (by simp [ansV,ansA,txt_nil,results,Tryz.results65,go_sem,r0,r1,r2,r3,r4,r5]) rfl ⟨rfl,HW.out.sets6 (Nat.le_refl _) _ _ _ _ _ _⟩
    ·have H10:=Hid.mk (ansr_is w3.heap.size k _ _ _ _ (k,0,0,0,0,[]) w9 HQ.out rfl);go_wp2_with fail;refine H10.out.mono ?_;rintro e w10 ⟨x,rfl,hb10,hxi⟩;replace HR9:=Hid.mk (HR9.out.bel hb10);replace HQ:=Hid.mk (HQ.out.bel hb10);replace HW:=Hid.mk (HW.out.trans hb10);have HX:=Hid.mk hxi;have R9:=HR9.out;have Q9:=HQ.out;have r0:=R9.cell 0 rfl;have f0:=R9.free 0;have r1:=R9.cell 1 rfl;have f1:=R9.free 1;have r2:=R9.cell 2 rfl;have f2:=R9.free 2;have r3:=R9.cell 3 rfl;have f3:=R9.free 3;have r4:=R9.cell 4 rfl;have f4:=R9.free 4;have r5:=R9.cell 5 rfl;have f5:=R9.free 5;have a0:=Q9.cell 0 rfl;have b0:=Q9.free 0;have a1:=Q9.cell 1 rfl;have b1:=Q9.free 1;have a2:=Q9.cell 2 rfl;have b2:=Q9.free 2;have a3:=Q9.cell 3 rfl;have b3:=Q9.free 3;have a4:=Q9.cell 4 rfl;have b4:=Q9.free 4;have a5:=Q9.cell 5 rfl;have b5:=Q9.free 5;clear R9 Q9 HR9 HQ hb10 H10 hxi;cases x
     ·rw [if_neg (fun e=>absurd (HX.out.2 e.2.2) (by simp))] at hfin;go_wp2;rw [hfin.out];exact bodyPost_ret (v:=ansV none) (by simp [ansV,ansA,txt_nil,results,Tryz.results65,go_sem,r0,r1,r2,r3,r4,r5]) rfl ⟨rfl,HW.out.sets6 (Nat.le_refl _) _ _ _ _ _ _⟩
     ·rw [if_pos ⟨hx,(by simp),HX.out.1 rfl⟩] at hfin;go_wp2;rw [hfin.out];exact bodyPost_ret (v:=ansV (some (k,0,0,0,0,[]))) (by simp [ansV,ansA,txt_nil,results,Tryz.results65,go_sem,r0,r1,r2,r3,r4,r5]) rfl ⟨rfl,HW.out.sets6 (Nat.le_refl _) _ _ _ _ _ _⟩
  ·subst hk1;replace HS:Hid (St W0 w2.heap.size o2 w3.heap.size 97 #[.int .i64 1,.int .i64 0,.int .i64 0,.int .i64 0,.int .i64 0,.string ⟨#[]⟩] (v0.setCell ⟨w3.heap.size,0,none⟩ (.int .i64 1))):=HS;have K1:=Hid.mk (rint_p _ _ 4 _ HS.out.rs (by omega));go_wp2_with fail;refine K1.out.mono ?_;rintro e v1 ⟨g,o3,rfl,hB,hR, -,hq1⟩;have HT1:=HS.out.read hB hR;have g1:=HT1.box.cell 1 rfl;have k1:=HT1.box.free 1;replace HS:=Hid.mk (HT1.put 1 (.int .i64 (g:Int)) (qc':=#[.int .i64 1,.int .i64 (g:Int),.int .i64 0,.int .i64 0,.int .i64 0,.string ⟨#[]⟩]) rfl);have P1:=Hid.mk hq1;clear hB hR hq1 K1;have HT:=Hid.mk HT1;clear HT1;have K2:=Hid.mk (rint_p _ _ 1 _ HS.out.rs (by omega));go_wp2_with fail;refine K2.out.mono ?_;rintro e v2 ⟨f,o4,rfl,hB,hR, -,hq2⟩;have HT2:=HS.out.read hB hR;have g2:=HT2.box.cell 2 rfl;have k2:=HT2.box.free 2;replace HS:=Hid.mk (HT2.put 2 (.int .i64 (f:Int)) (qc':=#[.int .i64 1,.int .i64 (g:Int),.int .i64 (f:Int),.int .i64 0,.int .i64 0,.string ⟨#[]⟩]) rfl);have P2:=Hid.mk hq2;clear hB hR hq2 K2;have HT:=Hid.mk HT2;clear HT2;have K3:=Hid.mk (rint_p _ _ 2 _ HS.out.rs (by omega));go_wp2_with fail;refine K3.out.mono ?_;rintro e v3 ⟨c,o5,rfl,hB,hR, -,hq3⟩;have HT3:=HS.out.read hB hR;have g3:=HT3.box.cell 3 rfl;have k3:=HT3.box.free 3;replace HS:=Hid.mk (HT3.put 3 (.int .i64 (c:Int)) (qc':=#[.int .i64 1,.int .i64 (g:Int),.int .i64 (f:Int),.int .i64 (c:Int),.int .i64 0,.string ⟨#[]⟩]) rfl);have P3:=Hid.mk hq3;clear hB hR hq3 K3;have HT:=Hid.mk HT3;clear HT3;have K4:=Hid.mk (rint_p _ _ 2 _ HS.out.rs (by omega));go_wp2_with fail;refine K4.out.mono ?_;rintro e v4 ⟨n,o6,rfl,hB,hR, -,hq4⟩;have HT4:=HS.out.read hB hR;have g4:=HT4.box.cell 4 rfl;have k4:=HT4.box.free 4;replace HS:=Hid.mk (HT4.put 4 (.int .i64 (n:Int)) (qc':=#[.int .i64 1,.int .i64 (g:Int),.int .i64 (f:Int),.int .i64 (c:Int),.int .i64 (n:Int),.string ⟨#[]⟩]) rfl);have P4:=Hid.mk hq4;clear hB hR hq4 K4;have HT:=Hid.mk HT4;clear HT4
   have H7:Hid (Calls Tryz.prog 118 #[.pointer (some ⟨w2.heap.size,0,none⟩),.int .i64 ((b.length:Int) - 11)] (v4.setCell ⟨w3.heap.size,4,none⟩ (.int .i64 (n:Int))) (RTextP w2.heap.size (b.length - 11) o6 (v4.setCell ⟨w3.heap.size,4,none⟩ (.int .i64 (n:Int))))):=by
    show Calls _ _ _ _ _;by_cases h11:11≤b.length
    ·have:=rtext_p _ _ (b.length - 11) _ HS.out.rs (by have:=hbs.out;omega);rw [show ((b.length - 11:Nat):Int)=(b.length:Int) - 11 by omega] at this;exact this
    ·rw [show b.length - 11=0 by omega];exact rtext_neg _ _ _ _ HS.out.rs (by omega)
   have hbsz:=hbl.out;have hbsl:=Nat.le_trans hbs.out ht;go_wp2_with fail;refine H7.out.mono ?_;rintro e v5 ⟨s,o7,rfl,hB,hR, -,hq5⟩;have HT5:=HS.out.read hB hR;have g5:=HT5.box.cell 5 rfl;have k5:=HT5.box.free 5;replace HS:=Hid.mk (HT5.put 5 (.string (txt s)) (qc':=#[.int .i64 1,.int .i64 (g:Int),.int .i64 (f:Int),.int .i64 (c:Int),.int .i64 (n:Int),.string (txt s)]) rfl);have P5:=Hid.mk hq5;clear hB hR hq5 H7;have HT:=Hid.mk HT5;clear HT5
   have PX:Hid ((some (bytesBits b)).bind (answX (b.length - 11))=o7.map (Prod.mk (l,(1,g,f,c,n,s)))):=by
    refine then_step HQ1.out (then_step P0.out ?_);rw [if_pos rfl];exact then_step P1.out (then_step P2.out (then_step P3.out (then_step P4.out (then_step P5.out (done_step _)))))
   clear HQ1 P0 P1 P2 P3 P4 P5 hbl hbs hbsz hbsl;have hfin:Hid (answP t.data.toList=haveI:=decAns (1,g,f,c,n,s);if endP o7=true∧l=[65]∧ansOK (1,g,f,c,n,s) then some (1,g,f,c,n,s) else none):=answP_is hO (PX.out);have hne:w.heap.size≠w3.heap.size:=by have:=hrp.out;have:=HS.out.2.2.2.1;omega
   have HW:Hid (Bel w (v5.setCell ⟨w3.heap.size,5,none⟩ (.string (txt s)))):=But.belTo hw0.out HS.out.1 (fun j hj=>by have:=hrp.out;simp at hj;omega);by_cases hl:l=[65]
   rotate_left
   ·have hte2:((txt l).toList==[65])=false:=by rw [hte];exact decide_eq_false hl
    rw [if_neg (fun e=>hl e.2.1)] at hfin;have R9:=HR.out.but HT.out.1 (by have:=hrp.out;simp;omega);have r0:=R9.cell 0 rfl;have f0:=R9.free 0;have r1:=R9.cell 1 rfl;have f1:=R9.free 1;have r2:=R9.cell 2 rfl;have f2:=R9.free 2;have r3:=R9.cell 3 rfl;have f3:=R9.free 3;have r4:=R9.cell 4 rfl;have f4:=R9.free 4;have r5:=R9.cell 5 rfl;have f5:=R9.free 5;clear R9 hte HS hl HT HR hrp;go_wp2;rw [hfin.out];exact bodyPost_ret (v:=ansV none) (by simp [ansV,ansA,txt_nil,results,Tryz.results65,go_sem,r0,r1,r2,r3,r4,r5]) rfl ⟨rfl,HW.out.sets6 (Nat.le_refl _) _ _ _ _ _ _⟩
   ·subst hl;have H9:=Hid.mk (rover_p _ _ _ HS.out.rs);have HQ:=Hid.mk HS.out.box;have hte2:((txt [65]).toList==[65])=true:=by rw [hte];simp
    have HR9:=Hid.mk (HR.out.but HS.out.1 (by have:=hrp.out;simp;omega));clear hte HS HT HR hrp;go_wp2_with fail;refine H9.out.mono ?_;rintro e w9 ⟨rfl,hb9⟩;replace HR9:=Hid.mk (HR9.out.bel hb9);replace HQ:=Hid.mk (HQ.out.bel hb9);replace HW:=Hid.mk (HW.out.trans hb9);clear hb9 H9 g0 g1 g2 g3 g4 g5 k0 k1 k2 k3 k4 k5;cases hx:endP o7
    ·rw [if_neg (fun e=>by rw [hx] at e;exact absurd e.1 (by simp))] at hfin;have R9:=HR9.out;have r0:=R9.cell 0 rfl;have f0:=R9.free 0;have r1:=R9.cell 1 rfl;have f1:=R9.free 1;have r2:=R9.cell 2 rfl;have f2:=R9.free 2;have r3:=R9.cell 3 rfl;have f3:=R9.free 3;have r4:=R9.cell 4 rfl;have f4:=R9.free 4;have r5:=R9.cell 5 rfl;have f5:=R9.free 5;clear R9 HR9 HQ;go_wp2;rw [hfin.out];exact bodyPost_ret (v:=ansV none) (by simp [ansV,ansA,txt_nil,results,Tryz.results65,go_sem,r0,r1,r2,r3,r4,r5]) rfl ⟨rfl,HW.out.sets6 (Nat.le_refl _) _ _ _ _ _ _⟩
    ·have H10:=Hid.mk (ansr_is w3.heap.size 1 _ _ _ _ (1,g,f,c,n,s) w9 HQ.out rfl);go_wp2_with fail;refine H10.out.mono ?_;rintro e w10 ⟨x,rfl,hb10,hxi⟩;replace HR9:=Hid.mk (HR9.out.bel hb10);replace HQ:=Hid.mk (HQ.out.bel hb10);replace HW:=Hid.mk (HW.out.trans hb10);have HX:=Hid.mk hxi;have R9:=HR9.out;have Q9:=HQ.out;have r0:=R9.cell 0 rfl;have f0:=R9.free 0;have r1:=R9.cell 1 rfl;have f1:=R9.free 1;have r2:=R9.cell 2 rfl;have f2:=R9.free 2;have r3:=R9.cell 3 rfl;have f3:=R9.free 3;have r4:=R9.cell 4 rfl;have f4:=R9.free 4;have r5:=R9.cell 5 rfl;have f5:=R9.free 5;have a0:=Q9.cell 0 rfl;have b0:=Q9.free 0;have a1:=Q9.cell 1 rfl;have b1:=Q9.free 1;have a2:=Q9.cell 2 rfl;have b2:=Q9.free 2;have a3:=Q9.cell 3 rfl;have b3:=Q9.free 3;have a4:=Q9.cell 4 rfl;have b4:=Q9.free 4;have a5:=Q9.cell 5 rfl;have b5:=Q9.free 5;clear R9 Q9 HR9 HQ hb10 H10 hxi;cases x
     ·rw [if_neg (fun e=>absurd (HX.out.2 e.2.2) (by simp))] at hfin;go_wp2;rw [hfin.out];exact bodyPost_ret (v:=ansV none) (by simp [ansV,ansA,txt_nil,results,Tryz.results65,go_sem,r0,r1,r2,r3,r4,r5]) rfl ⟨rfl,HW.out.sets6 (Nat.le_refl _) _ _ _ _ _ _⟩
     ·rw [if_pos ⟨hx,(by simp),HX.out.1 rfl⟩] at hfin;go_wp2;rw [hfin.out];exact bodyPost_ret (v:=ansV (some (1,g,f,c,n,s))) (by simp [ansV,ansA,results,Tryz.results65,go_sem,r0,r1,r2,r3,r4,r5]) rfl ⟨rfl,HW.out.sets6 (Nat.le_refl _) _ _ _ _ _ _⟩
end Go.Proofs.YtpapdkhjdelfcabGreat
