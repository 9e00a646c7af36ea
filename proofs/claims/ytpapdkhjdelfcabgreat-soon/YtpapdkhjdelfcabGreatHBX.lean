import Derived.Test.YtpapdkhjdelfcabGreatHBV
import Derived.Test.YtpapdkhjdelfcabGreatHBS
import Derived.Test.YtpapdkhjdelfcabGreatHBW
set_option maxRecDepth 100000
set_option maxHeartbeats 4000000
namespace Go.Proofs.YtpapdkhjdelfcabGreat
open Go.RowKit
theorem most_is (a b:Int) (w:World):Calls Tryz.prog 137 #[.int .i64 a,.int .i64 b] w fun e w'=>e= .returned (.int .i64 (if b<a then a else b))∧w=w':=by
 by_cases h:b<a
 ·have h1:decide (a>b)=true:=decide_eq_true h;go_enter Tryz.func137,Tryz.ntmps137;go_wp2;go_ret;exact ⟨rfl,rfl⟩
 ·have h1:decide (a>b)=false:=decide_eq_false h;go_enter Tryz.func137,Tryz.ntmps137;go_wp2;go_ret;exact ⟨rfl,rfl⟩
theorem wrap64_range (x:Int):I64 (wrap64 x):=by unfold I64 wrap64;omega
theorem kimage_is {W0:World} {p s:Nat} {k:KI} {w:World} (h:KInv W0 p s k w) (hs:s≤65600) (f:Int):
  Calls Tryz.prog 99 #[.pointer (some ⟨k.q,0,none⟩),.int .i64 f] w (RTxE w (simgF f k.g.toNat k.on k.B (mkF k.on k.B))):=
 image_v k.M k.q k.on k.B k.g.toNat f w h.svcN (mkF_len _ _ h.onok h.good.1) h.onok h.good.1 (by have:=h.gen;omega)
theorem kgen_is {W0:World} {p s:Nat} {k:KI} {w:World} (h:KInv W0 p s k w):
  Calls Tryz.prog 101 #[.pointer (some ⟨k.q,0,none⟩)] w fun e w'=>e= .returned (.int .i64 k.g)∧w=w':=gen_v k.M k.q k.on k.B k.g w h.svc
def latN (a c:Nat) (e:Int):Nat:=3+if e=0 then (max a c+47) / 48 else 0
def KI.pln (k:KI) (n:Nat):Pln:=((k.pp[n]?).map fun y=>y.2.1).getD (plnNew 1)
theorem pln_is {k:KI} {n:Nat} (h:n<k.pp.length):k.pln n=(k.pp[n]).2.1:=by unfold KI.pln;rw [List.getElem?_eq_getElem h];rfl
theorem pu_pln {k k':KI} {n:Nat} (h:k.pu.pl=k'.pu.pl):k.pln n=k'.pln n:=by
 have e:(k.pp.map fun y=>y.2.1)=k'.pp.map fun y=>y.2.1:=h
 unfold KI.pln;rw [←List.getElem?_map,←List.getElem?_map,e]
theorem recv_pln {k k':KI} {n:Nat} {x:KP} {t:ByteArray} (hn:n<k.pp.length) (hx:x.pl=k.pu.pl) (h:k'.pu=x.recv n t):k'.pln n=recvG (k.pln n) t.data.toList:=by
 have hl:x.pl[n]?=some (k.pln n):=by
  rw [hx,pln_is hn];show (k.pp.map fun y=>y.2.1)[n]?=_;rw [List.getElem?_map,List.getElem?_eq_getElem hn];rfl
 have e:(k'.pp.map fun y=>y.2.1)=x.pl.set n (recvG (k.pln n) t.data.toList):=by
  have:=congrArg KP.pl h;unfold KP.recv at this;rw [hl] at this;exact this
 unfold KI.pln;rw [←List.getElem?_map,e,List.getElem?_set_self (List.getElem?_eq_some_iff.1 hl).1];rfl
theorem serve_data (x:KP) (t:ByteArray):(x.serve t).data.toList=serveB x.on.formats.toNat x.g x.on x.B (mkF x.on x.B) t.data.toList:=rfl
theorem tickT_data (p:Pln):(tickT p).data.toList=tickB p.g p.fm p.cg p.cf p.T:=rfl
theorem serve_ans {on:Cfg} {G:Nat} {B:List BK} {p:Pln} (hOK:p.OK):serveB on.formats.toNat G on B (mkF on B) (tickB p.g p.fm p.cg p.cf p.T)=frameA (ansS on G B p):=by
 have hm:misF p.T<65536:=by
  have:=misK_le p.T 0;have:=hOK.tlen;unfold misF;omega
 unfold serveB;rw [quest_round (by have:=hOK.g;omega) (by have:=hOK.fm;omega) hOK.cg hOK.cf hm];rfl
theorem round_pln {k k':KI} {n:Nat} (hn:n<k.pp.length) (hT:k.Tr) (hOK:(k.pln n).OK) (h:k'.pu=roundP k.pu n 0):k'.pln n=takeG (k.pln n) (ansS k.on k.g.toNat k.B (k.pln n)):=by
 have hg:=hT.glen
 have hB:1≤k.g.toNat→k.bs[k.g.toNat - 1]?=some k.B:=fun h1=>by
  have:=hT.last (by omega);rwa [show k.bs.length=k.g.toNat by omega] at this
 have hr:=round_take hT.hist hB hOK
 have htick:k.pu.tick n=tickT (k.pln n):=by
  unfold KP.tick
  have:k.pu.pl[n]?=some (k.pln n):=by
   rw [pln_is hn];show (k.pp.map fun y=>y.2.1)[n]?=_;rw [List.getElem?_map,List.getElem?_eq_getElem hn];rfl
  rw [this]
 have hserve:((k.pu.keep (k.pu.tick n)).serve (k.pu.tick n)).data.toList=serveB k.on.formats.toNat k.g.toNat k.on k.B (mkF k.on k.B) (tickB (k.pln n).g (k.pln n).fm (k.pln n).cg (k.pln n).cf (k.pln n).T):=by
  rw [htick,serve_data,tickT_data];simp only [KP.keep,KI.pu]
 have hne:((k.pu.keep (k.pu.tick n)).serve (k.pu.tick n)).toList≠[]:=fun e=>by
  have e0:ByteArray.empty.toList=[]:=by kernel_rfl
  have e1:(k.pu.keep (k.pu.tick n)).serve (k.pu.tick n)=ByteArray.empty:=str_eq.1 (by rw [e,e0];rfl);have e2:serveB k.on.formats.toNat k.g.toNat k.on k.B (mkF k.on k.B) (tickB (k.pln n).g (k.pln n).fm (k.pln n).cg (k.pln n).cf (k.pln n).T)=[]:=by rw [←hserve,e1];rfl
  have e3:frameA (ansS k.on k.g.toNat k.B (k.pln n))=[]:=by rw [←serve_ans hOK];exact e2
  obtain ⟨b,hb⟩:=frame_seald (ansS k.on k.g.toNat k.B (k.pln n));rw [e3] at hb;unfold openB at hb;rw [if_pos (by simp)] at hb;cases hb
 have hro:roundP k.pu n 0=((k.pu.keep (k.pu.tick n)).keep ((k.pu.keep (k.pu.tick n)).serve (k.pu.tick n))).recv n ((k.pu.keep (k.pu.tick n)).serve (k.pu.tick n)):=by
  unfold roundP;rw [if_neg (by decide),if_neg hne,if_neg (by decide),if_neg (by decide)]
 rw [hro] at h;rw [recv_pln (x:=(k.pu.keep (k.pu.tick n)).keep ((k.pu.keep (k.pu.tick n)).serve (k.pu.tick n))) hn rfl h,hserve,hr]
theorem old_pln {k k':KI} {n:Nat} {b:Int} (hn:n<k.pp.length) (hT:k.Tr) (h:k'.pu=oldP k.pu n b):k'.pln n=k.pln n∨∃t,FrU k.on k.bs t∧k'.pln n=recvG (k.pln n) t.data.toList:=by
 unfold oldP at h;split at h
 ·exact Or.inl (pu_pln (congrArg KP.pl h))
 ·rename_i hne
  have hF:FrU k.on k.bs (oldF k.pu b):=by
   unfold oldF;rcases hq:k.pu.fr[(pickF (b.tdiv 2) (k.pu.fr.length:Int)).toNat]? with _|t
   ·exact none_U _ _ (answP_no (by unfold openB;rw [if_pos (by simp)]))
   ·exact hT.frT t (List.mem_of_getElem? hq)
  split at h
  ·split at h
   ·exact Or.inl (pu_pln (congrArg KP.pl h))
   ·exact Or.inr ⟨_,Tr_serve hT (oldF k.pu b),recv_pln (x:=k.pu.keep (k.pu.serve (oldF k.pu b))) hn rfl h⟩
  ·exact Or.inr ⟨_,hF,recv_pln (x:=k.pu) hn rfl h⟩
theorem KTo.bs {k k':KI} {f:Nat} (h:KTo k k' f):k'.bs=k.bs:=by have e:=congrArg KI.bs h.eq;exact e
def LatM (k:KI) (n cm r:Nat) (nf:Bool) (k':KI):Prop:=((k.pln n).fm &&& k.on.formats.toNat=0→(k'.pln n).g=(k.pln n).g∧(nf=true→(k'.pln n).nf=true))∧((k.pln n).fm &&& k.on.formats.toNat≠0→need k.bs.length cm (k'.pln n)≤r∧(nf=true→(k'.pln n).nf=false))∧(k'.pln n).fm=(k.pln n).fm
def CmOK (k:KI) (cm:Nat):Prop:=∀f B,k.bs[k.bs.length - 1]?=some B→(1≤f∧f≤2)→countP (imgS f k.bs.length k.on B).length≤cm
theorem Tr_pl {k:KI} {n:Nat} (hn:n<k.pp.length) (hT:k.Tr):PlU k.on k.bs (k.pln n):=by
 rw [pln_is hn];exact hT.plT _ (List.mem_map.2 ⟨k.pp[n],List.getElem_mem hn,rfl⟩)
theorem LatM.start {k:KI} {n cm:Nat} (hn:n<k.pp.length) (hT:k.Tr) (hcm:CmOK k cm):LatM k n cm (cm+1) false k:=by
 refine ⟨fun _=>⟨rfl,fun h=>by cases h⟩,fun _=>⟨?_,fun h=>by cases h⟩,rfl⟩;have hP:=Tr_pl hn hT;unfold need;split
 ·exact Nat.zero_le _
 ·split
  ·rename_i h1 h2;rcases hP.1.1 with h0|⟨B,b1,b2,b3,b4, -⟩
   ·exfalso;rcases hP.1.2 with k0|⟨X,x1,x2, -⟩
    ·omega
    ·have:=(List.getElem?_eq_some_iff.1 x2).1;omega
   ·rw [h2] at b2 b4;have:=hcm _ B b2 b3;omega
  ·exact Nat.le_refl _
theorem LatM.round {k k' k4:KI} {n cm r f f':Nat} {nf:Bool} (hn:n<k.pp.length) (hcm:CmOK k cm) (h:LatM k n cm r nf k') (hK:KTo k k' f) (hTr:k.Tr) (hOK:(k'.pln n).OK) (hR:k4.pu=roundP k'.pu n 0) (_h4:KTo k' k4 f'):LatM k n cm (r - 1) true k4:=by
 have hT':=hK.tr hTr;have hn':n<k'.pp.length:=by rw [hK.len];exact hn
 have hg:=hT'.glen;have hP:=Tr_pl hn' hT';have e:=round_pln hn' hT' hOK hR;have hB:1≤k'.bs.length→k'.bs[k'.bs.length - 1]?=some k'.B:=fun h1=>hT'.last (by omega)
 rw [show k'.g.toNat=k'.bs.length by omega] at e;refine ⟨fun h0=>?_,fun h0=>?_,?_⟩
 ·have hz:(k'.pln n).fm &&& k'.on.formats.toNat=0:=by rw [h.2.2,hK.on];exact h0
  have ea:ansS k'.on k'.bs.length k'.B (k'.pln n)=(2,0,0,0,0,[]):=by unfold ansS answF;rw [if_pos hz]
  rw [ea] at e;have et:takeG (k'.pln n) (2,0,0,0,0,[])={k'.pln n with nf:=true}:=by unfold takeG;rw [if_pos (by decide)];rfl
  rw [e,et];exact ⟨(h.1 h0).1,fun _=>rfl⟩
 ·have hz:(k'.pln n).fm &&& k'.on.formats.toNat≠0:=by rw [h.2.2,hK.on];exact h0
  have hrn:=round_need (B:=k'.B) (cm:=cm) hT'.hist hB hP.1 hOK hP.2 hz (by rw [hK.bs,hK.on];exact hcm);rw [e];rw [hK.bs] at hrn ⊢;refine ⟨Nat.le_trans hrn.1 ?_,fun _=>hrn.2⟩;have:=(h.2.1 h0).1;omega
 ·obtain ⟨hap,hA⟩:=ansS_piece hT'.hist hB (k'.pln n)
  have hfm:(takeG (k'.pln n) (ansS k'.on k'.bs.length k'.B (k'.pln n))).fm=(k'.pln n).fm:=by
   rcases take_cases hT'.hist hP.1 hOK (AnsR.of hap) hA with ⟨-,e⟩|⟨-, -,e⟩|⟨-, -, -, -, -,⟨-, -, -, -,e⟩|⟨-,e⟩⟩
   ·rw [e]
   ·rw [e]
   ·exact e
   ·rw [e]
  rw [e,hfm];exact h.2.2
theorem LatM.old {k k' k4:KI} {n cm r f:Nat} {nf:Bool} {b:Int} (hn:n<k.pp.length) (hcm:CmOK k cm) (h:LatM k n cm r nf k') (hK:KTo k k' f) (hTr:k.Tr) (hOK:(k'.pln n).OK) (hR:k4.pu=oldP k'.pu n b):LatM k n cm r false k4:=by
 have hT':=hK.tr hTr;have hn':n<k'.pp.length:=by rw [hK.len];exact hn
 have hP:=Tr_pl hn' hT';rcases old_pln hn' hT' hR with e|⟨t,ht,e⟩
 ·rw [LatM,e];exact ⟨fun h0=>⟨(h.1 h0).1,fun h=>by cases h⟩,fun h0=>⟨(h.2.1 h0).1,fun h=>by cases h⟩,h.2.2⟩
 ·rw [LatM,e];refine ⟨fun h0=>⟨?_,fun h=>by cases h⟩,fun h0=>⟨?_,fun h=>by cases h⟩,?_⟩
  ·rw [recv_zero hT'.hist hP hOK ht (by rw [h.2.2,hK.on];exact h0)];exact (h.1 h0).1
  ·have:=recv_need (cm:=cm) hT'.hist hP hOK ht (by rw [hK.bs,hK.on];exact hcm);rw [hK.bs] at this;exact Nat.le_trans this (h.2.1 h0).1
  ·rw [(recv_U hT'.hist hP hOK ht).2.2];exact h.2.2
theorem need_zero {k:KI} {n cm:Nat} (hn:n<k.pp.length) (hT:k.Tr) (h:need k.bs.length cm (k.pln n)=0):((k.pln n).g:Int)=k.g:=by
 have hP:=Tr_pl hn hT;have hg:=hT.glen;unfold need at h;split at h
 ·rename_i e;omega
 ·rename_i e1;split at h
  ·rename_i e2;exfalso;by_cases h0:(k.pln n).cg=0
   ·rcases hP.1.2 with k0|⟨X,x1,x2, -⟩
    ·omega
    ·have:=(List.getElem?_eq_some_iff.1 x2).1;omega
   ·have:=(hP.2 h0).1;omega
  ·omega
def RLat (W0:World) (p s:Nat) (k:KI) (e:Ending) (w':World):Prop:=∃k',e= .returned (.bool true)∧KInv W0 p s k' w'∧KTo k k' 1500000
theorem KInv.plnOK {W0:World} {p s:Nat} {k:KI} {w:World} {n:Nat} (h:KInv W0 p s k w) (hn:n<k.pp.length):(k.pln n).OK:=by rw [pln_is hn];exact (h.svc.pl hn).2
theorem klatest_is {W0:World} {p s:Nat} {k:KI} {w:World} {n:Nat} (h:KInv W0 p s k w) (hs:s≤65600) (hds:k.ds=0) (hn:n<k.pp.length) (hfb:k.fb≤800000000000) (hTr:k.Tr) (b:Int) (hb:I64 b):
  Calls Tryz.prog 79 #[.pointer (some ⟨p,0,none⟩),.int .i64 (n:Int),.int .i64 b] w (RLat W0 p s k):=by
 have hnl:n<k.sp.length:=by have:=h.slen;omega
 obtain ⟨gs,cs,hvs, -, -⟩:=World.ownsRow.form h.speaks (by omega:0<k.sp.length);have hrow:=h.speaks;rw [hvs] at hrow
 have cs0:w.cell? ⟨gs,n,none⟩=some (.int .i64 k.sp[n]):=by
  have hc:=World.ownsRow.cellAt hrow n (by simpa using hnl);rw [hc];simp [hnl]
 have c7:=h.at_.1 7 _ rfl;have c13:=h.at_.1 13 _ rfl;have c16:w.cell? ⟨p,16,none⟩=some (.slice (some ⟨gs,0,none⟩) k.sp.length cs):=by rw [←hvs];exact h.at_.1 16 _ rfl
 have hpk:=fun wx=>pick_is b 3 wx hb (by omega) (by omega)
 have hhd:=fun wx (b':Bel w wx)=>held_v (h.later b').svc hn
 have him:=fun f wx (b':Bel w wx)=>kimage_is (h.later b') hs f
 have hS1:(simgF 1 k.g.toNat k.on k.B (mkF k.on k.B)).1.length≤16777216:=simgF_len ((Cfg.ok_iff k.on).1 h.onok).1 h.good.1 (mkF_len _ _ h.onok h.good.1);have hS2:(simgF 2 k.g.toNat k.on k.B (mkF k.on k.B)).1.length≤16777216:=simgF_len ((Cfg.ok_iff k.on).1 h.onok).1 h.good.1 (mkF_len _ _ h.onok h.good.1);have him1:=him 1;have him2:=him 2;have hfmv:(k.pln n).fm≤3:=by rw [pln_is hn];exact (h.svc.pl hn).2.fm.2
 have hfo:0≤k.on.formats∧k.on.formats≤3:=by have:=((Cfg.ok_iff k.on).1 h.onok).2;omega
 have hand:bits .and .i64 k.sp[n] k.on.formats=(((k.pln n).fm &&& k.on.formats.toNat:Nat):Int):=by
  have e1:=hTr.spT n k.sp[n] (k.pp[n]).2.1 (List.getElem?_eq_getElem hnl) (by rw [List.getElem?_map,List.getElem?_eq_getElem hn];rfl);rw [e1,←pln_is hn];have e2:k.on.formats=((k.on.formats.toNat:Nat):Int):=by omega
  rw [e2,i64_and_nat _ _ (by omega) (by omega)];rfl
 have hg:=hTr.glen;obtain ⟨cm,hcmd⟩:∃cm,cm=(if (simgF 1 k.g.toNat k.on k.B (mkF k.on k.B)).2=0 then (max (simgF 1 k.g.toNat k.on k.B (mkF k.on k.B)).1.length (simgF 2 k.g.toNat k.on k.B (mkF k.on k.B)).1.length+47) / 48 else 0):=⟨_,rfl⟩
 have HCM:Hid (CmOK k cm):=fun f B hB hf=>by
  have hl:=(List.getElem?_eq_some_iff.1 hB).1;have hg1:1≤k.g:=by omega
  have eB:B=k.B:=by have:=hTr.last hg1;rw [hB] at this;exact Option.some.inj this
  have e0:∀f:Nat,1≤f∧f≤2→simgF (f:Int) k.g.toNat k.on k.B (mkF k.on k.B)=(imgS f k.g.toNat k.on k.B,0):=fun f hf=>by
   unfold simgF;rw [if_pos ⟨by omega,by omega⟩,if_neg (by omega),Int.toNat_natCast];rfl
  have e01:simgF 1 k.g.toNat k.on k.B (mkF k.on k.B)=(imgS 1 k.g.toNat k.on k.B,0):=e0 1 ⟨by omega,by omega⟩;have e02:simgF 2 k.g.toNat k.on k.B (mkF k.on k.B)=(imgS 2 k.g.toNat k.on k.B,0):=e0 2 ⟨by omega,by omega⟩;rw [hcmd,e01,e02,if_pos rfl,eB,show k.bs.length=k.g.toNat by omega];dsimp only;unfold countP;rcases (show f=1∨f=2 by omega) with rfl|rfl <;>omega
 have HI:=Hid.mk h;have HT:=Hid.mk hTr;clear him h hrow hTr hg;generalize simgF 1 k.g.toNat k.on k.B (mkF k.on k.B)=I1 at *;generalize simgF 2 k.g.toNat k.on k.B (mkF k.on k.B)=I2 at *;obtain ⟨I1,E1⟩:=I1;obtain ⟨I2,E2⟩:=I2;dsimp only at hcmd;have hz1:(txt I1).size≤16777216:=by rw [txt_size];exact hS1
 have hz2:(txt I2).size≤16777216:=by rw [txt_size];exact hS2
 rw [←txt_size I1,←txt_size I2] at hcmd;unfold RTxE at him1 him2;dsimp only at him1 him2;generalize txt I1=t1 at *;generalize txt I2=t2 at *;generalize k.sp[n]=spn at *;generalize k.sp.length=spl at *;generalize pickF b 3=m3 at *;clear hS1 hS2;unfold heldF at hhd;have hGp:(k.svp.ps[n]'hn).2.1=k.pln n:=(pln_is hn).symm;rw [hGp] at hhd;have HP0:Hid (∃P0,P0=k.pln n):=⟨_,rfl⟩;generalize hGG:(k.pln n).g=G at hhd;generalize (if (k.pln n).nf=true then (11:Int) else 0)=xe at hhd;have HGG:=Hid.mk hGG;have HAND:=Hid.mk hand;clear hGp hGG hand;go_enter Tryz.func79,Tryz.ntmps79;go_wp2_with fail;go_quiet (fail);go_wp2_with fail;refine (hhd _ (by (repeat (first|exact Bel.refl _|assumption|refine Bel.step_alloc ?_ _|refine Bel.step_drew ?_|refine Bel.step_drewN ?_ _|refine Bel.step_set ?_ (by simp <;>omega) _|refine Bel.trans ?_ (by assumption))))).mono ?_;rintro e w1 ⟨rfl,hb1⟩;have hbw1:Bel w w1:=Bel.trans (by (repeat (first|exact Bel.refl _|assumption|refine Bel.step_alloc ?_ _|refine Bel.step_drew ?_|refine Bel.step_drewN ?_ _|refine Bel.step_set ?_ (by simp <;>omega) _|refine Bel.trans ?_ (by assumption)))) hb1;have d7:=hbw1.cell c7;clear hhd;go_wp2_with fail;refine (him1 _ (by (repeat (first|exact Bel.refl _|assumption|refine Bel.step_alloc ?_ _|refine Bel.step_drew ?_|refine Bel.step_drewN ?_ _|refine Bel.step_set ?_ (by simp <;>omega) _|refine Bel.trans ?_ (by assumption))))).mono ?_;rintro e w2 ⟨rfl,hb2⟩;have hbw2:Bel w w2:=hbw1.trans hb2;have e7:=hbw2.cell c7;clear him1 d7;go_wp2_with fail;refine (him2 _ (by (repeat (first|exact Bel.refl _|assumption|refine Bel.step_alloc ?_ _|refine Bel.step_drew ?_|refine Bel.step_drewN ?_ _|refine Bel.step_set ?_ (by simp <;>omega) _|refine Bel.trans ?_ (by assumption))))).mono ?_;rintro e w3 ⟨rfl,hb3⟩;have hbw3:Bel w w3:=hbw2.trans hb3;have HI3:=Hid.mk (HI.out.later hbw3);clear him2 e7 hb1 hb2 hb3 hbw1 hbw2 HI c7;obtain ⟨N,hN⟩:∃N,N=latN t1.size t2.size E1:=⟨_,rfl⟩;have hNcm:Hid (N=3+cm):=by show N=3+cm;rw [hN,hcmd];rfl
 have hNle:N≤349529:=by
  rw [hN];unfold latN;split <;>omega
 clear hcmd;go_upto_if 56 with fail
 go_cut [10,12] (fun v v12 wr=>w3=wr∧v= .int .i64 (N:Int)∧∃E0,v12= .int .i64 E0)
 case first=>
  by_cases hE:E1=0
  ·have hEb:(E1==0)=true:=by rw [beq_iff_eq];exact hE
   have hNe:Hid (3+((if (t2.size:Int)<(t1.size:Int) then (t1.size:Int) else (t2.size:Int))+48 - 1) / 48=(N:Int)):=by
    show _=_;rw [hN];unfold latN;rw [if_pos hE];split <;>omega
   have hmx:0≤(if (t2.size:Int)<(t1.size:Int) then (t1.size:Int) else (t2.size:Int))∧(if (t2.size:Int)<(t1.size:Int) then (t1.size:Int) else (t2.size:Int))≤16777216:=by split <;>omega
   have hms:=fun wx=>most_is (t1.size:Int) (t2.size:Int) wx
   generalize (if (t2.size:Int)<(t1.size:Int) then (t1.size:Int) else (t2.size:Int))=mx at *;obtain ⟨hm1,hm2⟩:=hmx;clear hN;go_wp2_with fail;refine (hms _).mono ?_;rintro e w4 ⟨rfl,rfl⟩;clear hms;go_wp2_with fail;go_meet
   case rel=>exact ⟨rfl,by rw [←hNe.out],_,rfl⟩
  ·have hEb:(E1==0)=false:=by rw [beq_eq_false_iff_ne];exact hE
   have hNe:Hid ((3:Int)=(N:Int)):=by
    show _=_;rw [hN];unfold latN;rw [if_neg hE];rfl
   clear hN;go_wp2_with fail;go_meet
   case rel=>exact ⟨rfl,by rw [←hNe.out],_,rfl⟩
 case rest=>
  obtain ⟨rfl,rfl,E0,rfl⟩:=hcut;clear hN hbw3 c13 c16 cs0
  have H0 : Hid (∃ k', KInv W0 p s k' w3 ∧ KTo k k' (3 * 0) ∧ LatM k n cm (cm + 1 - 0) (decide (0 = N)) k') := ⟨k, HI3.out, KTo.refl k 0, by
    have : decide (0 = N) = false := decide_eq_false (by have := hNcm.out; omega)
    rw [this]
    exact LatM.start hn HT.out HCM.out⟩
  clear HI3;go_wp2;go_loopg [15] N (fun r nk wr=>∃j:Nat,nk= .int .i64 (j:Int)∧j≤N∧r=N - j∧∃k',KInv W0 p s k' wr∧KTo k k' (3 * j)∧LatM k n cm (cm+1 - j) (decide (j=N)) k')
  case atStart=>exact ⟨0,rfl,by omega,rfl,H0.out⟩
  case round=>
   obtain ⟨j,rfl,hj,rfl,k',hk',hT',hL'⟩:=hrel;have hfbj:=hT'.fb;by_cases hjN:j<N
   ·have hjb:decide ((j:Int)<(N:Int))=true:=decide_eq_true (by omega);have hrd:=kround_is hk' hs (n:=n) (by rw [hT'.len];exact hn) (by omega) 0;have hOK':=hk'.plnOK (n:=n) (by rw [hT'.len];exact hn)
    have HL4:Hid (∀k4 f',k4.pu=roundP k'.pu n 0→KTo k' k4 f'→LatM k n cm (cm+1 - (j+1)) true k4):=fun k4 f' e4 t4=>by
     have:=hL'.round hn HCM.out hT' HT.out hOK' e4 t4;rwa [show cm+1 - j - 1=cm+1 - (j+1) by omega] at this
    clear hk' hL' hOK';go_wp2_with fail;refine hrd.mono ?_;rintro e w4 ⟨rfl,k4,hk4,hT4,hp4⟩;have hL4:=HL4.out k4 _ hp4 hT4;have hT5:=hT'.trans hT4;have hfb5:=hT5.fb;clear hrd hT4 hT' HL4 hp4;go_wp2_with fail;refine (hpk _).mono ?_;rintro e w5 ⟨rfl,rfl⟩;by_cases hm:0<m3
    ·have hm1:decide (m3>0)=true:=decide_eq_true hm;by_cases hj2:j+1<N
     ·have hj4:decide ((j:Int)<(N:Int) - 1)=true:=decide_eq_true (by omega);have hol:=fun b' (hb':I64 b')=>kold_is hk4 hs (n:=n) (by rw [hT5.len];exact hn) (by omega) b' hb'
      have hOK4:=hk4.plnOK (n:=n) (by rw [hT5.len];exact hn)
      have HL6:Hid (∀k6 b',k6.pu=oldP k4.pu n b'→LatM k n cm (cm+1 - (j+1)) (decide (j+1=N)) k6):=fun k6 b' e6=>by
       rw [decide_eq_false (by omega:¬j+1=N)];exact hL4.old hn HCM.out hT5 HT.out hOK4 e6
      clear hk4 hL4 hOK4;go_wp2_with fail;refine (hol _ (wrap64_range _)).mono ?_;rintro e w6 ⟨rfl,k6,hk6,hT6,hp6⟩;have HN:Hid (∃k',KInv W0 p s k' w6∧KTo k k' (3 * (j+1))∧LatM k n cm (cm+1 - (j+1)) (decide (j+1=N)) k'):=⟨k6,hk6,(hT5.trans hT6).wide (by omega),HL6.out k6 _ hp6⟩;clear hk6 hT6 hol hp6 HL6;go_wp2;go_roundg (N - (j+1))
      case measure=>omega
      case rel=>exact ⟨j+1,by go_num,by omega,rfl,HN.out⟩
     ·have hj4:decide ((j:Int)<(N:Int) - 1)=false:=decide_eq_false (by omega);have HN:Hid (∃k',KInv W0 p s k' w4∧KTo k k' (3 * (j+1))∧LatM k n cm (cm+1 - (j+1)) (decide (j+1=N)) k'):=⟨k4,hk4,hT5.wide (by omega),by rw [decide_eq_true (by omega:j+1=N)];exact hL4⟩;clear hk4 hL4;go_wp2;go_roundg (N - (j+1))
      case measure=>omega
      case rel=>exact ⟨j+1,by go_num,by omega,rfl,HN.out⟩
    ·have hm1:decide (m3>0)=false:=decide_eq_false hm;have HN:Hid (∃k',KInv W0 p s k' w4∧KTo k k' (3 * (j+1))∧LatM k n cm (cm+1 - (j+1)) (decide (j+1=N)) k'):=⟨k4,hk4,hT5.wide (by omega),⟨fun h0=>⟨(hL4.1 h0).1,fun _=>(hL4.1 h0).2 rfl⟩,fun h0=>⟨(hL4.2.1 h0).1,fun _=>(hL4.2.1 h0).2 rfl⟩,hL4.2.2⟩⟩;clear hk4 hL4;go_wp2;go_roundg (N - (j+1))
     case measure=>omega
     case rel=>exact ⟨j+1,by go_num,by omega,rfl,HN.out⟩
   ·have hjb:decide ((j:Int)<(N:Int))=false:=decide_eq_false (by omega);obtain rfl:j=N:=by omega
    have hn':n<k'.pp.length:=by rw [hT'.len];exact hn
    have hhd:=held_v hk'.svc (n:=n) hn';have hgn:=fun wx (b':Bel wr wx)=>kgen_is (hk'.later b')
    have c7:=hk'.at_.1 7 _ rfl;rw [hT'.q] at c7 hgn;have hq:k'.q=k.q:=hT'.q;have hGp:(k'.svp.ps[n]'hn').2.1=k'.pln n:=(pln_is hn').symm;rw [hGp] at hhd;have hhd':Calls Tryz.prog 32 #[.pointer (some ⟨k.q,0,none⟩),.int .i64 (n:Int)] wr (RHeld wr (heldF (k'.pln n).g (k'.pln n).nf)):=by rw [←hq];exact hhd
    unfold heldF at hhd';have hTrk:=hT'.tr HT.out;rw [decide_eq_true rfl] at hL';have HF0:Hid ((k.pln n).fm &&& k.on.formats.toNat=0→(k'.pln n).g=G∧(k'.pln n).nf=true):=fun h0=>⟨by rw [(hL'.1 h0).1,HGG.out],(hL'.1 h0).2 rfl⟩
    have HF1:Hid ((k.pln n).fm &&& k.on.formats.toNat≠0→((k'.pln n).g:Int)=k'.g∧(k'.pln n).nf=false):=fun h0=>by
     have h1:=hL'.2.1 h0;refine ⟨need_zero (cm:=cm) hn' hTrk ?_,h1.2 rfl⟩;rw [hT'.bs];have:=hNcm.out;omega
    have HK:=Hid.mk hk';clear hk' hhd hL' hTrk hGp;generalize (k'.pln n).g=G2 at *;generalize (k'.pln n).nf=nf2 at *;go_wp2_with fail;refine hhd'.mono ?_;rintro e w4 ⟨rfl,hb4⟩;have x7:=hb4.cell c7;have HK4:=Hid.mk (HK.out.later hb4);clear hhd' HK c7;by_cases hf0:(k.pln n).fm &&& k.on.formats.toNat=0
    ·have hfb0:(bits .and .i64 spn k.on.formats==0)=true:=by rw [HAND.out,hf0];rfl
     obtain ⟨q1,q2⟩:=HF0.out hf0;subst q1 q2;go_wp2;go_ret;exact ⟨k',rfl,HK4.out,hT'.wide (by omega)⟩
    ·have hfb0:(bits .and .i64 spn k.on.formats==0)=false:=by rw [HAND.out,beq_eq_false_iff_ne];omega
     obtain ⟨q1,q2⟩:=HF1.out hf0;subst q2;have hgg:((G2:Int)==k'.g)=true:=by rw [beq_iff_eq];exact q1
     have HQ1:=Hid.mk q1;clear q1;go_wp2_with fail;refine (hgn _ (by (repeat (first|exact Bel.refl _|assumption|refine Bel.step_alloc ?_ _|refine Bel.step_drew ?_|refine Bel.step_drewN ?_ _|refine Bel.step_set ?_ (by simp <;>omega) _|refine Bel.trans ?_ (by assumption))))).mono ?_;rintro e w5 ⟨rfl,rfl⟩;clear hgn;go_wp2;go_ret;exact ⟨k',rfl,HK4.out,hT'.wide (by omega)⟩
end Go.Proofs.YtpapdkhjdelfcabGreat
namespace Go.Proofs.YtpapdkhjdelfcabGreat
open Go.RowKit
theorem KInv.hdn {W0:World} {p s:Nat} {k:KI} {w:World} (h:KInv W0 p s k w) (hR:k.Rdy s):k.hd.length=k.pp.length:=by
 have:=h.hlen;have:=hR.2.1;omega
theorem KI.Rdy.fb {k:KI} {s:Nat} (h:k.Rdy s):k.fb≤s * 2000000:=h.2.2.1
theorem KI.Rdy.fb8 {k:KI} {s:Nat} (h:k.Rdy s) (hs:s≤65600):k.fb≤800000000000:=Nat.le_trans h.fb (Nat.le_trans (Nat.mul_le_mul_right _ hs) (by decide))
theorem RStand.up {W0:World} {p s f:Nat} {k k':KI} {w':World} {hd':List Int} (h:KInv W0 p s {k' with hd:=hd'} w') (hR:k.Rdy s) (hT:KTo k k' f) (hf:f≤2000000) (hTr:({k' with hd:=hd'}:KI).Tr):KInv W0 p (s+1) {k' with hd:=hd'} w'∧({k' with hd:=hd'}:KI).Rdy (s+1):=by
 refine ⟨h.up (by omega),?_,?_,?_,hT.sl hR.2.2.2.1,?_,hTr⟩
 ·show k'.ds=0;rw [hT.ds];exact hR.1
 ·show k'.dh=0;rw [hT.dh];exact hR.2.1
 ·show k'.fb≤(s+1) * 2000000;rw [Nat.succ_mul];exact Nat.le_trans hT.fb (Nat.add_le_add hR.fb hf)
 ·show ImgP k'.img k'.on k'.g k'.B;have e:k'.img=k.img:=by have e:=congrArg KI.img hT.eq;exact e
  rw [e,hT.on,hT.g,hT.B];exact hR.2.2.2.2.1
theorem step_none (W0:World) (p s:Nat) (k:KI) (kd a b c:Int) (S:ByteArray) (w:World) (h:KInv W0 p s k w) (hR:k.Rdy s) (hv:k.pp.length=0) (hkd:(kd<1∨6<kd)∧kd≠12∧kd≠13):
  Calls Tryz.prog 36 #[.pointer (some ⟨p,0,none⟩),opV kd a b c S] w (RStep W0 p (s+1) FSt):=by
 obtain ⟨ah,caph,hvh⟩:=own_slice h.held
 have c17:w.cell? ⟨p,17,none⟩=some (.slice ah 0 caph):=by
  have e:k.hd.length=0:=by rw [h.hdn hR];exact hv
  rw [e] at hvh;rw [←hvh];exact h.at_.1 17 _ rfl
 have hplt:=h.at_.lt (by rw [wl_len];decide);have HI:=Hid.mk h;clear h hvh;have e1:(kd==1)=false:=by rw [beq_eq_false_iff_ne];omega
 have e2:(kd==2)=false:=by rw [beq_eq_false_iff_ne];omega
 have e3:(kd==3)=false:=by rw [beq_eq_false_iff_ne];omega
 have e4:(kd==4)=false:=by rw [beq_eq_false_iff_ne];omega
 have e5:(kd==5)=false:=by rw [beq_eq_false_iff_ne];omega
 have e6:(kd==6)=false:=by rw [beq_eq_false_iff_ne];omega
 have e12:(kd==12)=false:=by rw [beq_eq_false_iff_ne];omega
 have e13:(kd==13)=false:=by rw [beq_eq_false_iff_ne];omega
 unfold opV;go_enter Tryz.func36,Tryz.ntmps36;go_wp2
 all_goals go_ret
 all_goals exact Or.inl ⟨rfl,k,(HI.out.later (by (repeat (first|exact Bel.refl _|assumption|refine Bel.step_alloc ?_ _|refine Bel.step_drew ?_|refine Bel.step_drewN ?_ _|refine Bel.step_set ?_ (by simp <;>omega) _|refine Bel.trans ?_ (by assumption))))).up (by omega),hR.up (by omega)⟩
theorem step_else (W0:World) (p s:Nat) (k:KI) (kd a b c:Int) (S:ByteArray) (w:World) (h:KInv W0 p s k w) (hR:k.Rdy s) (hs:s≤65600) (hpp:0<k.pp.length) (ha:I64 a) (hkd:kd<1∨13<kd):
  Calls Tryz.prog 36 #[.pointer (some ⟨p,0,none⟩),opV kd a b c S] w (RStep W0 p (s+1) FSt):=by
 have hhl:=h.hdn hR;have hle4:k.pp.length≤4:=h.svc.le4;have hpk:=fun wx=>pick_is a (k.hd.length:Int) wx ha (by omega) (by omega)
 obtain ⟨h1,h2⟩:=pickF_range a (k.hd.length:Int) (by omega);obtain ⟨n,hn⟩:=Int.eq_ofNat_of_zero_le h1;rw [hn] at hpk h2;have hnl:n<k.pp.length:=by omega
 obtain ⟨gh,ch,hvh, -, -⟩:=World.ownsRow.form h.held (by omega:0<k.hd.length);have c17:w.cell? ⟨p,17,none⟩=some (.slice (some ⟨gh,0,none⟩) k.hd.length ch):=by rw [←hvh];exact h.at_.1 17 _ rfl
 have c7:=h.at_.1 7 _ rfl;have hplt:=h.at_.lt (by rw [wl_len];decide);have hp0:=(h.lt p (h.inM p h.p_in)).1;have hlz:((k.hd.length:Int)==0)=false:=by rw [beq_eq_false_iff_ne];omega
 have hfb:k.fb≤800000000000:=hR.fb8 hs;have HI:=Hid.mk h;have e1:(kd==1)=false:=by rw [beq_eq_false_iff_ne];omega
 have e2:(kd==2)=false:=by rw [beq_eq_false_iff_ne];omega
 have e3:(kd==3)=false:=by rw [beq_eq_false_iff_ne];omega
 have e4:(kd==4)=false:=by rw [beq_eq_false_iff_ne];omega
 have e5:(kd==5)=false:=by rw [beq_eq_false_iff_ne];omega
 have e6:(kd==6)=false:=by rw [beq_eq_false_iff_ne];omega
 have e7:(kd==7)=false:=by rw [beq_eq_false_iff_ne];omega
 have e8:(kd==8)=false:=by rw [beq_eq_false_iff_ne];omega
 have e9:(kd==9)=false:=by rw [beq_eq_false_iff_ne];omega
 have e10:(kd==10)=false:=by rw [beq_eq_false_iff_ne];omega
 have e11:(kd==11)=false:=by rw [beq_eq_false_iff_ne];omega
 have e12:(kd==12)=false:=by rw [beq_eq_false_iff_ne];omega
 have e13:(kd==13)=false:=by rw [beq_eq_false_iff_ne];omega
 have hst:=fun wx (b':Bel w wx)=>kstands_is (h.later b') hs hR.2.1 hnl hR.2.2.2.2.2
 clear h h1 hn;have HR:=Hid.mk hR;have HHL:=Hid.mk hhl;have HNL:=Hid.mk hnl;have HS:=Hid.mk hs;clear hR hhl hnl hs hle4 hpp h2 hfb;unfold opV;go_enter Tryz.func36,Tryz.ntmps36;go_wp2_with fail;go_region_held3 (fun w'=>Bel w w'∧w'.cell? ⟨p,17,none⟩=some (.slice (some ⟨gh,0,none⟩) k.hd.length ch)∧w'.cell? ⟨w.heap.size,1,none⟩=some (.int .i64 a)) ((exact ⟨by (repeat (first|exact Bel.refl _|assumption|refine Bel.step_alloc ?_ _|refine Bel.step_drew ?_|refine Bel.step_drewN ?_ _|refine Bel.step_set ?_ (by simp <;>omega) _|refine Bel.trans ?_ (by assumption))),Bel.cell (a:=w) (by (repeat (first|exact Bel.refl _|assumption|refine Bel.step_alloc ?_ _|refine Bel.step_drew ?_|refine Bel.step_drewN ?_ _|refine Bel.step_set ?_ (by simp <;>omega) _|refine Bel.trans ?_ (by assumption)))) c17,by simp⟩)) ((go_at_call 70;refine (hpk _).mono ?_;rintro e w2 ⟨rfl,rfl⟩))
 all_goals clear hpk
 go_wp2_with fail;refine (hst _ (by (repeat (first|exact Bel.refl _|assumption|refine Bel.step_alloc ?_ _|refine Bel.step_drew ?_|refine Bel.step_drewN ?_ _|refine Bel.step_set ?_ (by simp <;>omega) _|refine Bel.trans ?_ (by assumption))))).mono ?_;rintro e w3 ⟨hd',rfl,hk3,hTr3⟩;have HK3:=Hid.mk hk3;have HTR3:=Hid.mk hTr3;clear hst hk3 hTr3;go_wp2;go_ret;exact Or.inl ⟨rfl,_,RStand.up HK3.out HR.out (KTo.refl k 0) (by decide) HTR3.out⟩
end Go.Proofs.YtpapdkhjdelfcabGreat
namespace Go.Proofs.YtpapdkhjdelfcabGreat
open Go.RowKit
theorem step_round (W0:World) (p s:Nat) (k:KI) (a b c:Int) (S:ByteArray) (w:World) (h:KInv W0 p s k w) (hR:k.Rdy s) (hs:s≤65600) (hpp:0<k.pp.length) (ha:I64 a):
  Calls Tryz.prog 36 #[.pointer (some ⟨p,0,none⟩),opV 7 a b c S] w (RStep W0 p (s+1) FSt):=by
 have hhl:=h.hdn hR;have hle4:k.pp.length≤4:=h.svc.le4;have hpk:=fun wx=>pick_is a (k.hd.length:Int) wx ha (by omega) (by omega)
 obtain ⟨h1,h2⟩:=pickF_range a (k.hd.length:Int) (by omega);obtain ⟨n,hn⟩:=Int.eq_ofNat_of_zero_le h1;rw [hn] at hpk h2;have hnl:n<k.pp.length:=by omega
 obtain ⟨gh,ch,hvh, -, -⟩:=World.ownsRow.form h.held (by omega:0<k.hd.length);have c17:w.cell? ⟨p,17,none⟩=some (.slice (some ⟨gh,0,none⟩) k.hd.length ch):=by rw [←hvh];exact h.at_.1 17 _ rfl
 have c7:=h.at_.1 7 _ rfl;have hplt:=h.at_.lt (by rw [wl_len];decide);have hp0:=(h.lt p (h.inM p h.p_in)).1;have hlz:((k.hd.length:Int)==0)=false:=by rw [beq_eq_false_iff_ne];omega
 have hfb:k.fb≤800000000000:=hR.fb8 hs;have HI:=Hid.mk h;have hcl:=fun wx (b':Bel w wx)=>kround_is (h.later b') hs hnl (Nat.le_trans hfb (by decide)) b
 clear h h1 hn;have HR:=Hid.mk hR;have HHL:=Hid.mk hhl;have HNL:=Hid.mk hnl;have HS:=Hid.mk hs;clear hR hhl hnl hs hle4 hpp h2 hfb;unfold opV;go_enter Tryz.func36,Tryz.ntmps36;go_wp2_with fail;go_region_held3 (fun w'=>Bel w w'∧w'.cell? ⟨p,17,none⟩=some (.slice (some ⟨gh,0,none⟩) k.hd.length ch)∧w'.cell? ⟨w.heap.size,1,none⟩=some (.int .i64 a)) ((exact ⟨by (repeat (first|exact Bel.refl _|assumption|refine Bel.step_alloc ?_ _|refine Bel.step_drew ?_|refine Bel.step_drewN ?_ _|refine Bel.step_set ?_ (by simp <;>omega) _|refine Bel.trans ?_ (by assumption))),Bel.cell (a:=w) (by (repeat (first|exact Bel.refl _|assumption|refine Bel.step_alloc ?_ _|refine Bel.step_drew ?_|refine Bel.step_drewN ?_ _|refine Bel.step_set ?_ (by simp <;>omega) _|refine Bel.trans ?_ (by assumption)))) c17,by simp⟩)) ((go_at_call 70;refine (hpk _).mono ?_;rintro e w2 ⟨rfl,rfl⟩))
 all_goals clear hpk
 go_wp2_with fail;refine (hcl _ (by (repeat (first|exact Bel.refl _|assumption|refine Bel.step_alloc ?_ _|refine Bel.step_drew ?_|refine Bel.step_drewN ?_ _|refine Bel.step_set ?_ (by simp <;>omega) _|refine Bel.trans ?_ (by assumption))))).mono ?_;rintro e w2 ⟨rfl,k2,hk2,hT2, -⟩;have x17:w2.cell? ⟨p,17,none⟩=some (.slice (some ⟨gh,0,none⟩) k.hd.length ch):=by rw [←hvh,←hT2.vh];exact hk2.at_.1 17 _ rfl
 have hst:=kstands_is hk2 HS.out (by rw [hT2.dh];exact HR.out.2.1) (n:=n) (by rw [hT2.len];exact HNL.out) (hT2.tr HR.out.2.2.2.2.2);clear hk2 hcl;go_wp2_with fail;refine hst.mono ?_;rintro e w3 ⟨hd',rfl,hk3,hTr3⟩;have HK3:=Hid.mk hk3;have HTR3:=Hid.mk hTr3;clear hst hk3 hTr3;go_wp2;go_ret;exact Or.inl ⟨rfl,_,RStand.up HK3.out HR.out hT2 (by decide) HTR3.out⟩
end Go.Proofs.YtpapdkhjdelfcabGreat
