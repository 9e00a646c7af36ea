import Derived.Test.YtpapdkhjdelfcabGreatHBY
import Derived.Test.YtpapdkhjdelfcabGreatHBU
import Derived.Test.YtpapdkhjdelfcabGreatHBX
import Derived.Test.YtpapdkhjdelfcabGreatHAA
import Derived.Test.YtpapdkhjdelfcabGreatRows
import Derived.WalkKit
import Derived.ProofKit
import Derived.OpenShut
import Derived.ChangeOld
import Derived.Below
import Derived.Deep.Slices
import Derived.SizedLaws
import Derived.Test.YtpapdkhjdelfcabGreatHAJ
set_option maxRecDepth 100000
set_option maxHeartbeats 4000000
namespace Go.Proofs.YtpapdkhjdelfcabGreat
open Go.RowKit
def RWrit (W0:World) (p s:Nat) (k:KI) (e:Ending) (w':World):Prop:=∃img',e= .returned (.bool true)∧KInv W0 p s {k with img:=img'} w'∧ImgP img' k.on k.g k.B
theorem size0_nil {t:ByteArray} (h:t.size=0):t.toList=[]:=by
 have:t=ByteArray.empty:=by
  apply ByteArray.ext;exact Array.eq_empty_of_size_eq_zero h
 have e1:ByteArray.empty.toList=[]:=by kernel_rfl
 rw [this,e1]
theorem conv_set {wA:World} {gA c0 m n:Nat} {l:List UInt8} (hB:BRow gA l wA) (hn:l.length=n) (x v:UInt8) (V:Int) (hV:V=(v.toNat:Int)):(convert 105 9 (.slice (some ⟨gA,0,none⟩) n c0)).run Tryz.prog (wA.setCell ⟨gA,m,none⟩ (.int .u8 (bits .xor .u8 (x.toNat:Int) V)))= .ok (.string (txt (l.set m (x ^^^ v)))) (wA.setCell ⟨gA,m,none⟩ (.int .u8 (bits .xor .u8 (x.toNat:Int) V))):=by
 subst hn
 have := run_convert_bytes_back (P := Tryz.prog) (wA.setCell ⟨gA, m, none⟩ (.int .u8 (bits .xor .u8 (x.toNat : Int) V))) 105 9 5 ⟨gA, 0, none⟩ c0 (l.set m (x ^^^ v)) Tryz.underlying105 rfl rfl (fun i hi => by
   have := (hB.set m (x ^^^ v) (bits .xor .u8 (x.toNat : Int) V) (by rw [hV, u8_xor])).1 i hi
   rwa [addr_add])
 rw [List.length_set] at this;exact this
theorem KInv.bel_img {W0:World} {p s:Nat} {k:KI} {w w':World} (h:KInv W0 p s k w) (b:Bel w w'):KInv W0 p s {k with img:=k.img} w':=h.later b
theorem kwritten_is {W0:World} {p s:Nat} {k:KI} {w:World} (h:KInv W0 p s k w) (hs:s≤65600) (hIm:ImgP k.img k.on k.g k.B) (a b:Int) (ha:I64 a) (hb:I64 b):
  Calls Tryz.prog 74 #[.pointer (some ⟨p,0,none⟩),.int .i64 a,.int .i64 b] w (RWrit W0 p s k):=by
 have c7:=h.at_.1 7 _ rfl;have c19:=h.at_.1 19 _ rfl;have f19:=h.at_.2 19 (by rw [wl_len];decide);have hgn:=fun wx (b':Bel w wx)=>kgen_is (h.later b')
 have him:=fun f wx (b':Bel w wx)=>kimage_is (h.later b') hs f
 have him1:=him 1;have him2:=him 2;have hisz:=h.isz;have hplt:=h.at_.lt (by rw [wl_len];decide);have HI:=Hid.mk h;have hgN:=h.gN;have hgs:=h.gen;have hon:=h.onok;have hgd:=h.good;have HIm:=Hid.mk hIm;clear him h hIm;have hpk2:=fun wx=>pick_is b 255 wx hb (by omega) (by omega)
 have hpr2:=pickF_range b 255 (by omega);generalize pickF b 255=yv at *;obtain ⟨hy1,hy2⟩:=hpr2;by_cases hg0:k.g=0
 ·have e7:∀f:Int,1≤f∧f≤2→simgF f k.g.toNat k.on k.B (mkF k.on k.B)=([],7):=fun f hf=>by
   unfold simgF;rw [if_pos hf,if_pos (by omega)]
  rw [e7 1 ⟨by omega,by omega⟩] at him1
  rw [e7 2 ⟨by omega,by omega⟩] at him2
  have hgb:(k.g==0)=true:=by rw [beq_iff_eq];exact hg0
  clear e7
  go_enter Tryz.func74,Tryz.ntmps74
  go_wp2_with fail
  refine (him1 _ (by (repeat (first|exact Bel.refl _|assumption|refine Bel.step_alloc ?_ _|refine Bel.step_drew ?_|refine Bel.step_drewN ?_ _|refine Bel.step_set ?_ (by simp <;>omega) _|refine Bel.trans ?_ (by assumption))))).mono ?_
  rintro e w1 ⟨rfl,hb1⟩
  have d7:=hb1.cell c7
  go_wp2_with fail
  refine (him2 _ (by (repeat (first|exact Bel.refl _|assumption|refine Bel.step_alloc ?_ _|refine Bel.step_drew ?_|refine Bel.step_drewN ?_ _|refine Bel.step_set ?_ (by simp <;>omega) _|refine Bel.trans ?_ (by assumption))))).mono ?_
  rintro e w2 ⟨rfl,hb2⟩
  have hbw2:Bel w w2:=hb1.trans hb2
  have e7:=hbw2.cell c7
  have hg2:=hgn w2 hbw2
  clear him1 him2 hgn
  go_wp2_with fail
  refine hg2.mono ?_
  rintro e w3 ⟨rfl,rfl⟩
  go_wp2
  all_goals go_ret
  all_goals exact ⟨k.img,rfl,HI.out.bel_img hbw2,HIm.out⟩
 have hGO:GenOK k.on k.g.toNat k.B:=⟨hon,hgd,by omega,by omega⟩
 have e0:∀f:Nat,1≤f∧f≤2→simgF (f:Int) k.g.toNat k.on k.B (mkF k.on k.B)=(imgS f k.g.toNat k.on k.B,0):=fun f hf=>by
  unfold simgF;rw [if_pos ⟨by omega,by omega⟩,if_neg (by omega),Int.toNat_natCast];rfl
 have e01:=e0 1 ⟨by omega,by omega⟩;have e02:=e0 2 ⟨by omega,by omega⟩;rw [show ((1:Nat):Int)=1 from rfl] at e01;rw [show ((2:Nat):Int)=2 from rfl] at e02;rw [e01] at him1;rw [e02] at him2;have hsh:=mkF_short hon hgd;have hz1:(txt (imgS 1 k.g.toNat k.on k.B)).size≤16777216:=by rw [txt_size];exact imageB_len ((Cfg.ok_iff k.on).1 hon).1 hgd.1 (by omega)
 have hz2:(txt (imgS 2 k.g.toNat k.on k.B)).size≤16777216:=by rw [txt_size];exact imageB_len ((Cfg.ok_iff k.on).1 hon).1 hgd.1 (by omega)
 have hz15:5≤(txt (imgS 1 k.g.toNat k.on k.B)).size:=by rw [txt_size];exact imgS_len _ _ _ _
 have hz25:5≤(txt (imgS 2 k.g.toNat k.on k.B)).size:=by rw [txt_size];exact imgS_len _ _ _ _
 have HO1:Hid (∃b,openB (txt (imgS 1 k.g.toNat k.on k.B)).data.toList=some b):=⟨_,imgS_open 1 k.g.toNat k.on k.B⟩;have HO2:Hid (∃b,openB (txt (imgS 2 k.g.toNat k.on k.B)).data.toList=some b):=⟨_,imgS_open 2 k.g.toNat k.on k.B⟩;have hd1:=fun wx=>decode_is (txt (imgS 1 k.g.toNat k.on k.B)) wx (by omega)
 have hd2:=fun wx=>decode_is (txt (imgS 2 k.g.toNat k.on k.B)) wx (by omega)
 rw [show (txt (imgS 1 k.g.toNat k.on k.B)).data.toList=imgS 1 k.g.toNat k.on k.B from rfl,dec_img ⟨by omega,by omega⟩ hGO] at hd1;rw [show (txt (imgS 2 k.g.toNat k.on k.B)).data.toList=imgS 2 k.g.toNat k.on k.B from rfl,dec_img ⟨by omega,by omega⟩ hGO] at hd2;unfold RDec at hd1 hd2;dsimp only at hd1 hd2;rw [hgN] at hd1 hd2;unfold RTxE at him1 him2;dsimp only at him1 him2;have HNew:Hid (ImgP (txt (imgS 1 k.g.toNat k.on k.B)) k.on k.g k.B):=Or.inr ⟨k.g.toNat,k.B,by omega,by omega,hgd,rfl,fun _=>rfl⟩
 have HPat:Hid (k.img.toList≠[]→∃(g1:Nat) (B1:List BK),GenOK k.on g1 B1∧k.img=txt (imgS 1 g1 k.on B1)∧((g1:Int)=k.g→B1=k.B)):=fun hne=>by
  rcases HIm.out with h0|⟨g0,B0,q1,q2,q3,q4,q5⟩
  ·exact absurd (size0_nil h0) hne
  ·exact ⟨g0,B0,⟨hon,q3,q1,by omega⟩,q4,q5⟩
 have HAn:=fun (k':KI) wx (hk':KInv W0 p s k' wx) (e:k'.on=k.on) (g1:Nat) (B1:List BK) (hg1:GenOK k.on g1 B1)=>kanother_is hk' (e ▸ hg1:GenOK k'.on g1 B1) (e ▸ hGO:GenOK k'.on k.g.toNat k.B)
 have HPat2:Hid (∀(g1:Nat) (B1:List BK),GenOK k.on g1 B1→patchF (imgS 1 g1 k.on B1) (imgS 2 k.g.toNat k.on k.B)=(patS k.on g1 B1 k.g.toNat k.B,0)∧applyF (patS k.on g1 B1 k.g.toNat k.B) (imgS 1 g1 k.on B1)=(imgS 1 k.g.toNat k.on k.B,0)∧(g1≠k.g.toNat→(applyF (patS k.on g1 B1 k.g.toNat k.B) (imgS 1 k.g.toNat k.on k.B)).2=10)∧(patS k.on g1 B1 k.g.toNat k.B).length≤16777216):=fun g1 B1 hg1=>by
  refine ⟨patch_img ⟨by omega,by omega⟩ ⟨by omega,by omega⟩ hg1 hGO,apply_img hg1 hGO,fun hne=>?_,?_⟩
  ·rcases apply_other hg1 hGO hGO with k1|k1
   ·exact k1
   ·exact absurd k1.1 hne
  ·exact patchB_len hgd.1 (by rw [List.length_take,List.length_drop];omega)
 have hdc:=fun (x:ByteArray) wx (hx:x.size≤16777216)=>decode_is x wx (by omega)
 have hcv:=fun (x:ByteArray) wx=>run_bytes_of_string (P:=Tryz.prog) wx 9 105 5 x rfl Tryz.underlying105 rfl
 have HNI:Hid (∃I1 I2:List UInt8,I1=imgS 1 k.g.toNat k.on k.B∧I2=imgS 2 k.g.toNat k.on k.B):=⟨_,_,rfl,rfl⟩;obtain ⟨t1,ht1⟩:∃t1,t1=txt (imgS 1 k.g.toNat k.on k.B):=⟨_,rfl⟩;obtain ⟨t2,ht2⟩:∃t2,t2=txt (imgS 2 k.g.toNat k.on k.B):=⟨_,rfl⟩;rw [←ht1] at him1 hz1 hz15 HO1 HNew hd1 hd2;rw [←ht2] at him2 hz2 hz25 HO2 hd1 hd2;have HT1:=Hid.mk ht1;have HT2:=Hid.mk ht2;clear ht1 ht2 e0 e01 e02 HNI;have hgb:(k.g==0)=false:=by rw [beq_eq_false_iff_ne];exact hg0
 have hb15:decide ((t1.size:Int)<5)=false:=decide_eq_false (by omega);have hb25:decide ((t2.size:Int)<5)=false:=decide_eq_false (by omega);obtain ⟨m1,hm1⟩:=Int.eq_ofNat_of_zero_le (pickF_range a (t1.size:Int) (by omega)).1;obtain ⟨m2,hm2⟩:=Int.eq_ofNat_of_zero_le (pickF_range a (t2.size:Int) (by omega)).1;have hpkm1:=fun wx=>pick_is a (t1.size:Int) wx ha (by omega) (by omega)
 have hpkm2:=fun wx=>pick_is a (t2.size:Int) wx ha (by omega) (by omega)
 have hmm1:m1<t1.size:=by have:=(pickF_range a (t1.size:Int) (by omega)).2;omega
 have hmm2:m2<t2.size:=by have:=(pickF_range a (t2.size:Int) (by omega)).2;omega
 rw [hm1] at hpkm1;rw [hm2] at hpkm2;clear hm1 hm2;have HTl1:Hid (t1.data.toList.length=t1.size):=by show _=_;rw [Array.length_toList];rfl
 have HTl2:Hid (t2.data.toList.length=t2.size):=by show _=_;rw [Array.length_toList];rfl
 have HmL1:Hid (m1<t1.data.toList.length):=by show _<_;rw [HTl1.out];exact hmm1
 have HmL2:Hid (m2<t2.data.toList.length):=by show _<_;rw [HTl2.out];exact hmm2
 obtain ⟨v8,hv8⟩:∃v8:UInt8,(v8.toNat:Int)=1+yv:=⟨UInt8.ofNat (1+yv).toNat,by rw [UInt8.toNat_ofNat'];omega⟩;have hv0:v8≠0:=fun e=>by rw [e] at hv8;have:(0:Int)=1+yv:=hv8;omega
 have HV8:=Hid.mk hv8;clear hv8
 have HdT1:Hid (∀wx,Calls Tryz.prog 89 #[.string (txt (t1.data.toList.set m1 ((t1.data.toList[m1]'HmL1.out) ^^^ v8)))] wx (RDec wx ([],[],0,9))):=fun wx=>by
  obtain ⟨bd,hbd⟩:=HO1.out;have:=decode_is (txt (t1.data.toList.set m1 ((t1.data.toList[m1]'HmL1.out) ^^^ v8))) wx (by rw [txt_size,List.length_set,HTl1.out];omega);rwa [show (txt (t1.data.toList.set m1 ((t1.data.toList[m1]'HmL1.out) ^^^ v8))).data.toList=t1.data.toList.set m1 ((t1.data.toList[m1]'HmL1.out) ^^^ v8) from rfl,dec_none (turned_none hbd HmL1.out hv0)] at this
 have HdT2:Hid (∀wx,Calls Tryz.prog 89 #[.string (txt (t2.data.toList.set m2 ((t2.data.toList[m2]'HmL2.out) ^^^ v8)))] wx (RDec wx ([],[],0,9))):=fun wx=>by
  obtain ⟨bd,hbd⟩:=HO2.out;have:=decode_is (txt (t2.data.toList.set m2 ((t2.data.toList[m2]'HmL2.out) ^^^ v8))) wx (by rw [txt_size,List.length_set,HTl2.out];omega);rwa [show (txt (t2.data.toList.set m2 ((t2.data.toList[m2]'HmL2.out) ^^^ v8))).data.toList=t2.data.toList.set m2 ((t2.data.toList[m2]'HmL2.out) ^^^ v8) from rfl,dec_none (turned_none hbd HmL2.out hv0)] at this
 have HGE:=Hid.mk hGO;have HGN:=Hid.mk hgN;clear hdc hGO hgN hgs hon hgd hsh hv0;go_enter Tryz.func74,Tryz.ntmps74;go_wp2_with fail;refine (him1 _ (by (repeat (first|exact Bel.refl _|assumption|refine Bel.step_alloc ?_ _|refine Bel.step_drew ?_|refine Bel.step_drewN ?_ _|refine Bel.step_set ?_ (by simp <;>omega) _|refine Bel.trans ?_ (by assumption))))).mono ?_;rintro e w1 ⟨rfl,hb1⟩;have d7:=hb1.cell c7;clear him1;go_wp2_with fail;refine (him2 _ (by (repeat (first|exact Bel.refl _|assumption|refine Bel.step_alloc ?_ _|refine Bel.step_drew ?_|refine Bel.step_drewN ?_ _|refine Bel.step_set ?_ (by simp <;>omega) _|refine Bel.trans ?_ (by assumption))))).mono ?_;rintro e w2 ⟨rfl,hb2⟩;have hbw2:Bel w w2:=hb1.trans hb2;have e7:=hbw2.cell c7;clear him2 d7 hb1 hb2;have hg2:=hgn w2 hbw2;go_wp2_with fail;refine hg2.mono ?_;rintro e w3 ⟨rfl,rfl⟩;clear hg2;go_wp2;go_loopg [11] 2 (fun r nk wr=>∃j:Nat,nk= .int .i64 (j:Int)∧j≤2∧r=2 - j∧Bel w wr)
 case atStart=>exact ⟨0,rfl,by omega,rfl,hbw2⟩
 case round=>
  obtain ⟨j,rfl,hj,rfl,hbr⟩:=hrel;have x7:=hbr.cell c7;by_cases hj2:j<2
  ·have hjb:decide ((j:Int)<2)=true:=decide_eq_true (by omega);by_cases hj1:j=1
   ·have hj1b:((j:Int)==1)=true:=by rw [beq_iff_eq];omega
    go_wp2_with fail;refine (hd2 _).mono ?_;rintro e w4 ⟨rfl,hb4⟩;have hbw4:Bel w w4:=hbr.trans hb4;have y7:=hbw4.cell c7;have hgn4:=hgn w4 hbw4;clear hb4;go_wp2_with fail;refine hgn4.mono ?_;rintro e w5 ⟨rfl,rfl⟩;clear hgn4;have hcv4:=hcv t2 w4;go_wp2_with fail;generalize grownCap w4 t2.size 0 5=c0;have hB0:=BRow.new w4 t2 5 c0;generalize hwA:(World.alloc w4 (Obj.cells (bytesRow t2 c0) 5 ((bytesRow t2 c0).size,(bytesRow t2 c0).size+1))).drew=wA;have hBA:BRow w4.heap.size t2.data.toList wA:=by rw [←hwA];exact hB0.later (by (repeat (first|exact Bel.refl _|assumption|refine Bel.step_alloc ?_ _|refine Bel.step_drew ?_|refine Bel.step_drewN ?_ _|refine Bel.step_set ?_ (by simp <;>omega) _|refine Bel.trans ?_ (by assumption))))
    have hbA:Bel w wA:=by rw [←hwA];(repeat (first|exact Bel.refl _|assumption|refine Bel.step_alloc ?_ _|refine Bel.step_drew ?_|refine Bel.step_drewN ?_ _|refine Bel.step_set ?_ (by simp <;>omega) _|refine Bel.trans ?_ (by assumption)))
    have hw4:w.heap.size≤w4.heap.size:=hbw4.size;clear hwA hB0 hcv4;generalize w4.heap.size=gA at *;refine (hpkm2 _).mono ?_;rintro e w6 ⟨rfl,rfl⟩;go_wp2_with fail;refine (hpk2 _).mono ?_;rintro e w6 ⟨rfl,rfl⟩;have cB:=hBA.1 _ HmL2.out;have fB:=hBA.2 _ HmL2.out;have hcv2:∀V:Int,V=1+yv→(convert 105 9 (.slice (some ⟨gA,0,none⟩) t2.size c0)).run Tryz.prog (wA.setCell ⟨gA,m2,none⟩ (.int .u8 (bits .xor .u8 ((t2.data.toList[m2]'HmL2.out).toNat:Int) V)))= .ok (.string (txt (t2.data.toList.set m2 ((t2.data.toList[m2]'HmL2.out) ^^^ v8)))) (wA.setCell ⟨gA,m2,none⟩ (.int .u8 (bits .xor .u8 ((t2.data.toList[m2]'HmL2.out).toNat:Int) V))):=fun V hV=>conv_set hBA HTl2.out _ v8 V (hV.trans HV8.out.symm)
    have hcvA:=hcv2 (1+yv) rfl;have hcvB:=hcv2 ((1+yv) % 256) (by omega);have hbB:∀V:Int,Bel w (wA.setCell ⟨gA,m2,none⟩ (.int .u8 (bits .xor .u8 ((t2.data.toList[m2]'HmL2.out).toNat:Int) V))):=fun V=>Bel.step_set hbA hw4 _
    have hdT:=HdT2.out;clear hcv2 hBA;generalize (t2.data.toList[m2]'HmL2.out)=bv at *;generalize txt (t2.data.toList.set m2 (bv ^^^ v8))=tT at *;go_wp2_with fail;refine (hdT _).mono ?_;rintro e w7 ⟨rfl,hb7⟩;have HB7:Hid (Bel w w7):=Bel.trans (hbB _) hb7;clear hb7 hbB hcvA hcvB cB fB hdT;go_wp2;go_roundg (2 - (j+1))
    case measure=>omega
    case rel=>exact ⟨j+1,by go_num,by omega,rfl,HB7.out⟩
   ·have hj1b:((j:Int)==1)=false:=by rw [beq_eq_false_iff_ne];omega
    go_wp2_with fail;refine (hd1 _).mono ?_;rintro e w4 ⟨rfl,hb4⟩;have hbw4:Bel w w4:=hbr.trans hb4;have y7:=hbw4.cell c7;have hgn4:=hgn w4 hbw4;clear hb4;go_wp2_with fail;refine hgn4.mono ?_;rintro e w5 ⟨rfl,rfl⟩;clear hgn4;have hcv4:=hcv t1 w4;go_wp2_with fail;generalize grownCap w4 t1.size 0 5=c0;have hB0:=BRow.new w4 t1 5 c0;generalize hwA:(World.alloc w4 (Obj.cells (bytesRow t1 c0) 5 ((bytesRow t1 c0).size,(bytesRow t1 c0).size+1))).drew=wA;have hBA:BRow w4.heap.size t1.data.toList wA:=by rw [←hwA];exact hB0.later (by (repeat (first|exact Bel.refl _|assumption|refine Bel.step_alloc ?_ _|refine Bel.step_drew ?_|refine Bel.step_drewN ?_ _|refine Bel.step_set ?_ (by simp <;>omega) _|refine Bel.trans ?_ (by assumption))))
    have hbA:Bel w wA:=by rw [←hwA];(repeat (first|exact Bel.refl _|assumption|refine Bel.step_alloc ?_ _|refine Bel.step_drew ?_|refine Bel.step_drewN ?_ _|refine Bel.step_set ?_ (by simp <;>omega) _|refine Bel.trans ?_ (by assumption)))
    have hw4:w.heap.size≤w4.heap.size:=hbw4.size;clear hwA hB0 hcv4;generalize w4.heap.size=gA at *;refine (hpkm1 _).mono ?_;rintro e w6 ⟨rfl,rfl⟩;go_wp2_with fail;refine (hpk2 _).mono ?_;rintro e w6 ⟨rfl,rfl⟩;have cB:=hBA.1 _ HmL1.out;have fB:=hBA.2 _ HmL1.out;have hcv2:∀V:Int,V=1+yv→(convert 105 9 (.slice (some ⟨gA,0,none⟩) t1.size c0)).run Tryz.prog (wA.setCell ⟨gA,m1,none⟩ (.int .u8 (bits .xor .u8 ((t1.data.toList[m1]'HmL1.out).toNat:Int) V)))= .ok (.string (txt (t1.data.toList.set m1 ((t1.data.toList[m1]'HmL1.out) ^^^ v8)))) (wA.setCell ⟨gA,m1,none⟩ (.int .u8 (bits .xor .u8 ((t1.data.toList[m1]'HmL1.out).toNat:Int) V))):=fun V hV=>conv_set hBA HTl1.out _ v8 V (hV.trans HV8.out.symm)
    have hcvA:=hcv2 (1+yv) rfl;have hcvB:=hcv2 ((1+yv) % 256) (by omega);have hbB:∀V:Int,Bel w (wA.setCell ⟨gA,m1,none⟩ (.int .u8 (bits .xor .u8 ((t1.data.toList[m1]'HmL1.out).toNat:Int) V))):=fun V=>Bel.step_set hbA hw4 _
    have hdT:=HdT1.out;clear hcv2 hBA;generalize (t1.data.toList[m1]'HmL1.out)=bv at *;generalize txt (t1.data.toList.set m1 (bv ^^^ v8))=tT at *;go_wp2_with fail;refine (hdT _).mono ?_;rintro e w7 ⟨rfl,hb7⟩;have HB7:Hid (Bel w w7):=Bel.trans (hbB _) hb7;clear hb7 hbB hcvA hcvB cB fB hdT;go_wp2;go_roundg (2 - (j+1))
    case measure=>omega
    case rel=>exact ⟨j+1,by go_num,by omega,rfl,HB7.out⟩
  ·have hjb:decide ((j:Int)<2)=false:=decide_eq_false (by omega);have x19:=hbr.cell c19;have y19:=hbr.frozen c19 f19;have hKr:=HI.out.later hbr;have hk2:=hKr.setW (c':=k.c) (part':=k.part) (img':=t1) ((But.refl [p] wr).set (by simp) (.string t1)) (hKr.at_.set 19 _) hKr.cok (by omega);have HK2:=Hid.mk hk2;clear hKr;by_cases hne:k.img.toList=[]
   ·have hie:=(nil_beq k.img).1 hne;clear hk2;go_wp2;go_ret;exact ⟨t1,rfl,HK2.out,HNew.out⟩
   have hie:=(nil_beq k.img).2 hne;obtain ⟨g1,B1,hg1,hEq,hB1⟩:=HPat.out hne;obtain ⟨p1,p2,p3,p4⟩:=HPat2.out g1 B1 hg1;have han0:=fun wx (b':Bel (wr.setCell ⟨p,19,none⟩ (.string t1)) wx)=>HAn _ wx (hk2.later b') rfl g1 B1 hg1
   have hPs:(txt (patS k.on g1 B1 k.g.toNat k.B)).size≤16777216:=by rw [txt_size];exact p4
   have hpa:=fun wx=>spatch_is k.img t2 wx (by omega) (by omega)
   rw [show k.img.data.toList=imgS 1 g1 k.on B1 by rw [hEq];rfl,show t2.data.toList=imgS 2 k.g.toNat k.on k.B by rw [HT2.out];rfl,p1] at hpa;have hap1:=fun wx=>sapply_is (txt (patS k.on g1 B1 k.g.toNat k.B)) k.img wx (by omega) (by omega)
   have hap2:=fun wx=>sapply_is (txt (patS k.on g1 B1 k.g.toNat k.B)) t1 wx (by omega) (by omega)
   rw [show (txt (patS k.on g1 B1 k.g.toNat k.B)).data.toList=patS k.on g1 B1 k.g.toNat k.B from rfl,show k.img.data.toList=imgS 1 g1 k.on B1 by rw [hEq];rfl,p2] at hap1;rw [show (txt (patS k.on g1 B1 k.g.toNat k.B)).data.toList=patS k.on g1 B1 k.g.toNat k.B from rfl,show t1.data.toList=imgS 1 k.g.toNat k.on k.B by rw [HT1.out];rfl] at hap2
   have HSame:Hid (g1=k.g.toNat→k.img=t1):=fun e=>by
    have:B1=k.B:=hB1 (by rw [e];exact HGN.out);rw [hEq,HT1.out,e,this]
   have hq3:g1≠k.g.toNat→(applyF (patS k.on g1 B1 k.g.toNat k.B) (imgS 1 k.g.toNat k.on k.B)).2=10:=p3;generalize applyF (patS k.on g1 B1 k.g.toNat k.B) (imgS 1 k.g.toNat k.on k.B)=A2 at *;obtain ⟨A2,AE2⟩:=A2;unfold RTxE at hpa hap1 hap2;dsimp only at hpa hap1 hap2 hq3;rw [←HT1.out] at hap1;rw [←hEq] at han0;have HQ3:=Hid.mk hq3;clear p1 p2 p3 p4 hk2 hq3 hEq hg1 hB1 HAn;generalize txt (patS k.on g1 B1 k.g.toNat k.B)=tp at *;go_wp2_with fail;refine (hpa _).mono ?_;rintro e w4 ⟨rfl,hb4⟩;go_wp2_with fail;refine (hap1 _).mono ?_;rintro e w5 ⟨rfl,hb5⟩;have hb45:=hb4.trans hb5;go_wp2_with fail;refine (hap2 _).mono ?_;rintro e w6 ⟨rfl,hb6⟩;have hb46:=hb45.trans hb6;have han6:=han0 w6 hb46;clear han0 hpa hap1 hap2;by_cases hA2:AE2=10
   ·have hne2:(AE2 !=10)=false:=by rw [bne_eq_false_iff_eq];exact hA2
    go_wp2_with fail;refine han6.mono ?_;rintro e w7 ⟨rfl,hb7⟩;have HB7:=Hid.mk (hb46.trans hb7);clear han6;go_wp2;go_ret;exact ⟨t1,rfl,HK2.out.later HB7.out,HNew.out⟩
   ·have hne2:(AE2 !=10)=true:=by rw [bne_iff_ne];exact hA2
    have hsame : k.img = t1 := HSame.out (by
      by_cases e : g1 = k.g.toNat
      · exact e
      · exact absurd (HQ3.out e) hA2)
    have hg2:(k.img.toList==t1.toList)=true:=by rw [hsame];exact beq_self_eq_true _
    have HSM:=Hid.mk hsame;clear hsame;go_wp2_with fail;refine han6.mono ?_;rintro e w7 ⟨rfl,hb7⟩;have HB7:=Hid.mk (hb46.trans hb7);clear han6;go_wp2;go_ret;exact ⟨t1,rfl,HK2.out.later HB7.out,HNew.out⟩
end Go.Proofs.YtpapdkhjdelfcabGreat
namespace Go.Proofs.YtpapdkhjdelfcabGreat
open Go.RowKit
theorem step_bytes (W0:World) (p s:Nat) (k:KI) (a b c:Int) (S:ByteArray) (w:World) (h:KInv W0 p s k w) (hR:k.Rdy s) (hs:s≤65600) (ha:I64 a) (hb:I64 b):
  Calls Tryz.prog 36 #[.pointer (some ⟨p,0,none⟩),opV 13 a b c S] w (RStep W0 p (s+1) FSt):=by
 have hwr:=fun wx (b':Bel w wx)=>kwritten_is (h.later b') hs hR.2.2.2.2.1 a b ha hb
 have hplt:=h.at_.lt (by rw [wl_len];decide);have HR:=Hid.mk hR;clear h hR;unfold opV;go_enter Tryz.func36,Tryz.ntmps36;go_wp2_with fail;refine (hwr _ (by (repeat (first|exact Bel.refl _|assumption|refine Bel.step_alloc ?_ _|refine Bel.step_drew ?_|refine Bel.step_drewN ?_ _|refine Bel.step_set ?_ (by simp <;>omega) _|refine Bel.trans ?_ (by assumption))))).mono ?_;rintro e w2 ⟨img',rfl,hk2,hI2⟩;have HK:=Hid.mk hk2;have HI2:=Hid.mk hI2;clear hwr hk2 hI2;go_wp2;go_ret;exact Or.inl ⟨rfl,_,HK.out.up (by omega),⟨HR.out.1,HR.out.2.1,Nat.le_trans HR.out.2.2.1 (Nat.mul_le_mul_right _ (Nat.le_succ s)),HR.out.2.2.2.1,HI2.out,HR.out.2.2.2.2.2⟩⟩
theorem step_all (W0:World) (p s:Nat) (k:KI) (kd a b c:Int) (S:ByteArray) (w:World) (h:KInv W0 p s k w) (hR:k.Rdy s) (hs:s≤65600) (ha:I64 a) (hb:I64 b) (hc:I64 c) (hS:S.size≤maxLen):
  Calls Tryz.prog 36 #[.pointer (some ⟨p,0,none⟩),opV kd a b c S] w (RStep W0 p (s+1) FSt):=by
 by_cases k1:kd=1
 ·subst k1;exact step_num W0 p s k a b c S w h hR ha hb
 by_cases k2:kd=2
 ·subst k2;exact step_key W0 p s k a b c S w h hR
 by_cases k3:kd=3
 ·subst k3;exact step_new W0 p s k a b c S w h hR
 by_cases k4:kd=4
 ·subst k4;exact step_delta W0 p s k a b c S w h hR hs ha hb hS
 by_cases k5:kd=5
 ·subst k5;exact step_drop W0 p s k a b c S w h hR
 by_cases k6:kd=6
 ·subst k6;exact step_join W0 p s k a b c S w h hR ha
 by_cases k12:kd=12
 ·subst k12;exact step_same W0 p s k a b c S w h hR
 by_cases k13:kd=13
 ·subst k13;exact step_bytes W0 p s k a b c S w h hR hs ha hb
 by_cases hpp:k.pp.length=0
 ·exact step_none W0 p s k kd a b c S w h hR hpp ⟨by omega,k12,k13⟩
 have hpp':0<k.pp.length:=by omega
 by_cases k7:kd=7
 ·subst k7;exact step_round W0 p s k a b c S w h hR hs hpp' ha
 by_cases k8:kd=8
 ·subst k8;exact step_old W0 p s k a b c S w h hR hs hpp' ha hb
 by_cases k9:kd=9
 ·subst k9;exact step_burst W0 p s k a b c S w h hR hs hpp' ha hb hc
 by_cases k10:kd=10
 ·subst k10;exact step_restart W0 p s k a b c S w h hR hs hpp' ha
 by_cases k11:kd=11
 ·subst k11;exact step_soon W0 p s k a b c S w h hR hs hpp' ha hb
 exact step_else W0 p s k kd a b c S w h hR hs hpp' ha (by omega)
end Go.Proofs.YtpapdkhjdelfcabGreat
namespace Go.Proofs.YtpapdkhjdelfcabGreat
open Go.ChangeShapes Go.WideShapes Go.ChangeAt Go.RowKit Go.Deep
def OpAt (w:World) (a:Option Addr) (i:Nat) (kd x y z:Int) (S:ByteArray):Prop:=
 (∃b o,a=some ⟨b,o,none⟩∧w.cell? ⟨b,o+i * 5,none⟩=some (.int .i64 kd)∧w.cell? ⟨b,o+i * 5+1,none⟩=some (.int .i64 x)∧w.cell? ⟨b,o+i * 5+2,none⟩=some (.int .i64 y)∧w.cell? ⟨b,o+i * 5+3,none⟩=some (.int .i64 z)∧w.cell? ⟨b,o+i * 5+4,none⟩=some (.string S))∧
 I64 kd∧I64 x∧I64 y∧I64 z∧S.size≤140737488355328
def IsOps (w:World) (a:Option Addr) (len:Nat):Prop:=len≤maxLen∧∀i,i<len→∃kd x y z S,OpAt w a i kd x y z S
theorem wf_i64 {n:Int} (h:(Lit.int .i64 n).wf=true):I64 n:=by
 simp only [Lit.wf,Bool.and_eq_true,decide_eq_true_eq] at h;have h1:IntKind.i64.min= -9223372036854775808:=by decide
 have h2:IntKind.i64.max=9223372036854775807:=by decide
 unfold I64;omega
theorem wAll_mem {H:Type} {P:Program} {e:TypeId}:∀{l:List (DataW H)} {d:DataW H},d∈l→∀n∈d.weights P e,n∈DataW.weightsAll P e l
 |[],d,h,_,_=>by cases h
 |x::l,d,h,n,hn=>by
  rw [DataW.weightsAll,List.mem_append];rcases List.mem_cons.1 h with rfl|h
  ·exact Or.inl hn
  ·exact Or.inr (wAll_mem h n hn)
theorem open_ops {H:Type} {enc:TypeId×Value→H} {W:World} {spare:Nat→Bool} {held:Bool} {fuel:Nat} {cs:List Value} {x:DataW H×List MemPlace} (h:DataW.trod enc Tryz.prog W 0 spare held fuel 25 cs=some x)
  (hsz:∀n∈x.1.weights Tryz.prog 25,n≤reachBytes):∃a len cap,cs=[.slice a len cap]∧IsOps W a len:=by
 rcases open_slice Tryz.underlying25 h with ⟨rfl,_⟩|⟨a,len,cap,m,n,D,Pl,rfl,_,hl,hm,hmm,hxe,hall⟩
 ·exact ⟨none,0,0,rfl,Nat.zero_le _,fun i hi=>by omega⟩
 ·refine ⟨some a,len,cap,rfl,Nat.le_trans hl hm,fun i hi=>?_⟩;obtain ⟨cs',hc,hd⟩:=hall i (by subst hmm;split <;>omega);obtain ⟨xs,k,_,hx,hlen,hxl,hf⟩:=DataW.trod_struct Tryz.underlying48 hd;have h5:Tryz.prog.cellsOf 48=5:=by kernel_rfl
  have hi1:Tryz.prog.cellsOf 3=1:=by kernel_rfl
  have hs1:Tryz.prog.cellsOf 9=1:=by kernel_rfl
  rw [h5] at hc hlen;obtain ⟨_,_,hcell⟩:=World.cells?_some hc
  match cs',hlen,xs,hxl with
  |[c0,c1,c2,c3,c4],_,[y0,y1,y2,y3,y4],_=>
   have g0:DataW.trod enc Tryz.prog W 0 spare held k 3 (([c0,c1,c2,c3,c4].drop 0).take (Tryz.prog.cellsOf 3))=some y0:=hf 0 _ rfl;rw [hi1] at g0;have g1:DataW.trod enc Tryz.prog W 0 spare held k 3 (([c0,c1,c2,c3,c4].drop 1).take (Tryz.prog.cellsOf 3))=some y1:=hf 1 _ rfl;rw [hi1] at g1;have g2:DataW.trod enc Tryz.prog W 0 spare held k 3 (([c0,c1,c2,c3,c4].drop 2).take (Tryz.prog.cellsOf 3))=some y2:=hf 2 _ rfl;rw [hi1] at g2;have g3:DataW.trod enc Tryz.prog W 0 spare held k 3 (([c0,c1,c2,c3,c4].drop 3).take (Tryz.prog.cellsOf 3))=some y3:=hf 3 _ rfl;rw [hi1] at g3;have g4:DataW.trod enc Tryz.prog W 0 spare held k 9 (([c0,c1,c2,c3,c4].drop 4).take (Tryz.prog.cellsOf 9))=some y4:=hf 4 _ rfl;rw [hs1] at g4;obtain ⟨n0,e0,_,w0⟩:=DataW.trod_int Tryz.underlying3 g0;obtain ⟨n1,e1,_,w1⟩:=DataW.trod_int Tryz.underlying3 g1;obtain ⟨n2,e2,_,w2⟩:=DataW.trod_int Tryz.underlying3 g2;obtain ⟨n3,e3,_,w3⟩:=DataW.trod_int Tryz.underlying3 g3;obtain ⟨n4,e4,e5,w4⟩:=DataW.trod_string Tryz.underlying9 g4;simp only [List.drop_zero,List.drop_succ_cons,List.take_succ_cons,List.take_zero,List.cons.injEq,and_true] at e0 e1 e2 e3 e4;subst e0 e1 e2 e3 e4 e5
   have hwt:n4.data.toList.length≤reachBytes:=by
    refine hsz _ ?_;rw [hxe];simp only [DataW.weights,Tryz.underlying25,List.mem_cons,List.mem_append];refine Or.inr (Or.inl (wAll_mem (d:=D i) (List.mem_map.2 ⟨i,List.mem_range.2 hi,rfl⟩) _ ?_));have hD:D i=_:=(congrArg Prod.fst hx:_);rw [hD];simp [DataW.weights,DataW.weightsEach,Tryz.underlying48]
   have hwt2:n4.size≤140737488355328:=by
    have h1:n4.size=n4.data.toList.length:=rfl;have h2:reachBytes<2 ^ 47:=reachBytes_lt;omega
   obtain ⟨b,o,spot⟩:=a;have q0:=hcell 0 (by omega)
   have hspot:spot=none:=by
    obtain ⟨cs0,hc0,_⟩:=hall 0 (by subst hmm;split <;>omega);rw [h5] at hc0;obtain ⟨_,hl0,hcell0⟩:=World.cells?_some hc0;have r0:=hcell0 0 (by omega);rw [List.getElem?_eq_getElem (by omega)] at r0;simpa [Addr.add] using World.cell?_spot r0
   subst hspot;have q1:=hcell 1 (by omega);have q2:=hcell 2 (by omega);have q3:=hcell 3 (by omega);have q4:=hcell 4 (by omega);have hadd:∀j k,((⟨b,o,none⟩:Addr).add j).add k=⟨b,o+j+k,none⟩:=fun j k=>by unfold Addr.add;split <;>split <;>simp_all
   rw [hadd] at q0 q1 q2 q3 q4;exact ⟨n0,n1,n2,n3,n4,⟨b,o,rfl,q0,q1,q2,q3,q4⟩,wf_i64 w0,wf_i64 w1,wf_i64 w2,wf_i64 w3,hwt2⟩
end Go.Proofs.YtpapdkhjdelfcabGreat
namespace Go.Proofs.YtpapdkhjdelfcabGreat
open Go.RowKit
def RSmall (len:Nat) (w:World) (e:Ending) (w':World):Prop:=∃x,e= .returned (.bool x)∧w=w'∧(x=true→len≤65536)
theorem small_is (a:Option Addr) (len cap:Nat) (w:World) (h:IsOps w a len):Calls Tryz.prog 19 #[.slice a len cap] w (RSmall len w):=by
 by_cases hl:65536<len
 ·have hd:decide ((len:Int)>65536)=true:=decide_eq_true (by omega);go_enter Tryz.func19,Tryz.ntmps19;go_wp2;go_ret;exact ⟨false,rfl,rfl,by simp⟩
 ·have hd:decide ((len:Int)>65536)=false:=decide_eq_false (by omega);have HI:=Hid.mk h;have hl2:len≤65536:=by omega
  clear h hl;go_enter Tryz.func19,Tryz.ntmps19;go_wp2;go_loopg [3,4] len (fun r nn ni wr=>∃k s:Nat,nn= .int .i64 (s:Int)∧ni= .int .i64 (k:Int)∧k≤len∧s≤65536∧r=len - k∧wr=w)
  case atStart=>exact ⟨0,len,rfl,rfl,by omega,by omega,by omega,rfl⟩
  case round=>
   obtain ⟨k,s,rfl,rfl,hk,hs,hr,rfl⟩:=hrel;by_cases hkl:k<len
   ·obtain ⟨kd,x,y,z,S,⟨b,o,rfl, -, -, -, -,c4⟩, -, -, -, -,hS⟩:=HI.out.2 k hkl;have hk1:decide ((k:Int)<(len:Int))=true:=decide_eq_true (by omega);have hwr:wrap64 ((s:Int)+(S.size:Int))=((s+S.size:Nat):Int):=by unfold wrap64;omega
    have hwr2:IntKind.i64.wrap ((s:Int)+(S.size:Int))=((s+S.size:Nat):Int):=by rw [IntKind.wrap_i64];omega
    by_cases hgt:65536<s+S.size
    ·have hg1:decide (((s+S.size:Nat):Int)>65536)=true:=decide_eq_true (by omega);go_wp2;go_ret;exact ⟨false,rfl,rfl,by simp⟩
    ·have hg1:decide (((s+S.size:Nat):Int)>65536)=false:=decide_eq_false (by omega);go_wp2;go_roundg (len - (k+1))
     case measure=>omega
     case rel=>exact ⟨k+1,s+S.size,by go_num,by go_num,by omega,by omega,rfl,rfl⟩
   ·have hk1:decide ((k:Int)<(len:Int))=false:=decide_eq_false (by omega);go_wp2;go_ret;exact ⟨true,rfl,rfl,fun _=>hl2⟩
end Go.Proofs.YtpapdkhjdelfcabGreat
