import Derived.Test.YtpapdkhjdelfcabGreatSAH
set_option maxRecDepth 100000
set_option maxHeartbeats 4000000
namespace Go.Proofs.YtpapdkhjdelfcabGreat
open Go.RowKit
theorem kheld_is {W0:World} {p s:Nat} {k:KI} {w:World} {n:Nat} (h:KInv W0 p s k w) (hn:n<k.pp.length):
  Calls Tryz.prog 32 #[.pointer (some ⟨k.q,0,none⟩),.int .i64 (n:Int)] w (RHeld w (heldF k.pp[n].2.1.g k.pp[n].2.1.nf)):=held_v h.svc hn
theorem klookup_is {W0:World} {p s:Nat} {k:KI} {w:World} {n:Nat} (h:KInv W0 p s k w) (hn:n<k.pp.length) (t:ByteArray) (ht:t.size≤1000):
  Calls Tryz.prog 33 #[.pointer (some ⟨k.q,0,none⟩),.int .i64 (n:Int),.string t] w (RStrErr w (plOwnF k.pp[n].2.1.g k.pp[n].2.1.c k.pp[n].2.1.B k.pp[n].2.1.E t)):=lookup_v h.svc hn t (by omega)
theorem probe_fm (c:Cfg) (f:Int) (E:List EI) (k:ByteArray):∀n,probeTo {c with formats:=f} E k n=probeTo c E k n
 |0=>rfl
 |n+1=>by rw [probeTo,probeTo,probe_fm c f E k n]
theorem ownE_fm (c:Cfg) (f:Int) (B:List BK) (E:List EI) (k:ByteArray):ownE {c with formats:=f} B E k=ownE c B E k:=by
 have e:findF {c with formats:=f} E k=findF c E k:=by
  unfold findF;rw [probe_fm]
 unfold ownE;rw [e]
def on_ok (on:Cfg) (X:List BK):Prop:=on.OK∧Good X
theorem own_cases {on:Cfg} {X:List BK} (hc:on.OK) (hX:Good X) (k:ByteArray):((ownerF on X k).1.toList=[]∧(ownerF on X k).2=8)∨((ownerF on X k).1.toList≠[]∧(ownerF on X k).2=0):=by
 unfold ownerF;split
 ·rename_i e he;refine Or.inr ⟨?_,rfl⟩;obtain ⟨j,hj,h2, -⟩:=(mkF_right hc hX).2.1 e (List.mem_of_getElem? he);have hn:nameF X e.2=X[j].1:=by rw [h2,nameF,if_neg (by omega),Int.toNat_natCast,List.getElem?_eq_getElem hj];rfl
  show (nameF X e.2).toList≠[];rw [hn];intro h0;have h1:=(hX.1.2 _ (List.getElem_mem hj)).1;have e1:ByteArray.empty.toList=[]:=by kernel_rfl
  have h3:X[j].1=ByteArray.empty:=str_eq.1 (by rw [h0,e1];rfl);rw [h3] at h1;exact absurd h1 (by decide)
 ·exact Or.inl ⟨by kernel_rfl,rfl⟩
def RStand (W0:World) (p s:Nat) (k:KI) (e:Ending) (w':World):Prop:=∃hd',e= .returned (.bool true)∧KInv W0 p s {k with hd:=hd'} w'∧({k with hd:=hd'}:KI).Tr
theorem Tr_note {k:KI} {n:Nat} (hn:n<k.pp.length) (hT:k.Tr):({k with hd:=k.hd.set n ((k.pp[n]).2.1.g:Int)}:KI).Tr:=by
 refine ⟨hT.hist,hT.glen,hT.last,hT.frT,hT.plT,fun m x p hx hp=>?_,hT.spT⟩;have hx':(k.hd.set n ((k.pp[n]).2.1.g:Int))[m]?=some x:=hx;by_cases e:n=m
 ·subst e;have hl:=(List.getElem?_eq_some_iff.1 hx').1;rw [List.length_set] at hl;rw [List.getElem?_set_self hl] at hx';rw [List.getElem?_map,List.getElem?_eq_getElem hn] at hp;rw [←Option.some.inj hx',←Option.some.inj hp];exact Int.le_refl _
 ·rw [List.getElem?_set_ne e] at hx';exact hT.hdT m x p hx' hp
theorem kstands_is {W0:World} {p s:Nat} {k:KI} {w:World} {n:Nat} (h:KInv W0 p s k w) (hs:s≤65600) (hd0:k.dh=0) (hn:n<k.pp.length) (hT:k.Tr):
  Calls Tryz.prog 80 #[.pointer (some ⟨p,0,none⟩),.int .i64 (n:Int)] w (RStand W0 p s k):=by
 have hhd:=fun wx (b':Bel w wx)=>kheld_is (h.later b') hn
 have hnl:n<k.hd.length:=by have:=h.hlen;omega
 obtain ⟨gh,ch,hvh, -, -⟩:=World.ownsRow.form h.held (by omega:0<k.hd.length);obtain ⟨gw,cw,hvw, -, -⟩:=World.ownsRow.form h.went (by omega);have hrow:=h.held;rw [hvh] at hrow
 have ch0:w.cell? ⟨gh,n,none⟩=some (.int .i64 k.hd[n]):=by
  have hc:=World.ownsRow.cellAt hrow n (by simpa using hnl);rw [hc];simp [hnl]
 have fh0:w.frozen? ⟨gh,n,none⟩=false:=World.ownsRow.frozenAt hrow n;have hrg:=h.hrng _ (List.getElem_mem hnl);have c7:=h.at_.1 7 _ rfl;have c15:w.cell? ⟨p,15,none⟩=some (.slice (some ⟨gw,0,none⟩) (k.vr.length+1) cw):=by rw [←hvw];exact h.at_.1 15 _ rfl
 have c17:w.cell? ⟨p,17,none⟩=some (.slice (some ⟨gh,0,none⟩) k.hd.length ch):=by rw [←hvh];exact h.at_.1 17 _ rfl
 have hwl:=h.wlen;have hgn:=h.gen;have hbl:=h.wrow.1;have HI:=Hid.mk h;have hle:=hT.hdT n k.hd[n] (k.pp[n]).2.1 (List.getElem?_eq_getElem hnl) (by rw [List.getElem?_map,List.getElem?_eq_getElem hn];rfl);have hPl:PlU k.on k.bs (k.pp[n]).2.1:=hT.plT _ (List.mem_map.2 ⟨k.pp[n],List.getElem_mem hn,rfl⟩);have HNote:=Hid.mk (Tr_note hn hT);have hH:=hT.hist
 have HLk:Hid (∀j,j<12→((k.pp[n]).2.1.g=0→plOwnF (k.pp[n]).2.1.g (k.pp[n]).2.1.c (k.pp[n]).2.1.B (k.pp[n]).2.1.E (keyF j)=(⟨#[]⟩,7))∧(1≤(k.pp[n]).2.1.g→∃X,k.bs[(k.pp[n]).2.1.g - 1]?=some X∧plOwnF (k.pp[n]).2.1.g (k.pp[n]).2.1.c (k.pp[n]).2.1.B (k.pp[n]).2.1.E (keyF j)=ownerF k.on X (keyF j)∧on_ok k.on X)):=fun j _=>by
  refine ⟨fun e=>by unfold plOwnF;rw [if_pos e],fun e=>?_⟩;rcases hPl.1.2 with h0|⟨X,h1,h2,h3,h4,h5⟩
  ·omega
  ·refine ⟨X,h2,?_,hH.1,hH.2.2 X (List.mem_of_getElem? h2)⟩;unfold plOwnF;rw [if_neg (by omega),h3,h4,h5,ownE_fm];rfl
 have hGle:(k.pp[n]).2.1.g≤k.vr.length:=by
  rcases hPl.1.2 with h0|⟨X,h1,h2, -⟩
  ·omega
  ·have:=(List.getElem?_eq_some_iff.1 h2).1;omega
 clear hPl hH hT;generalize hG:k.pp[n].2.1.g=G at *;generalize k.pp[n].2.1.nf=nf at *;generalize hH:k.hd[n]=H at *;clear h hrow;unfold heldF at hhd;generalize (if nf=true then (11:Int) else 0)=xe at hhd;go_enter Tryz.func80,Tryz.ntmps80;go_wp2_with fail;refine (hhd _ (by (repeat (first|exact Bel.refl _|assumption|refine Bel.step_alloc ?_ _|refine Bel.step_drew ?_|refine Bel.step_drewN ?_ _|refine Bel.step_set ?_ (by simp <;>omega) _|refine Bel.trans ?_ (by assumption))))).mono ?_;rintro e w1 ⟨rfl,hb1⟩;have d15:=hb1.cell c15;have d17:=hb1.cell c17;have d7:=hb1.cell c7;have dh0:=hb1.cell ch0;have gh0:=hb1.frozen ch0 fh0;have HI1:=Hid.mk (HI.out.later hb1);clear hhd c15 c17 c7 ch0 fh0;have g1b:decide ((G:Int)<H)=false:=decide_eq_false (by omega);have g2b:decide ((G:Int)≥((k.vr.length+1:Nat):Int))=false:=decide_eq_false (by omega);have g2c:decide ((G:Int)≥(k.vr.length:Int)+1)=false:=decide_eq_false (by omega);have HK:=Hid.mk (HI1.out.note hvh hnl (x:=(G:Int)) (by omega));clear HI1;go_wp2;go_loopg [7] 12 (fun r nk wr=>∃j:Nat,nk= .int .i64 (j:Int)∧j≤12∧r=12 - j∧Bel (w1.setCell ⟨gh,n,none⟩ (.int .i64 (G:Int))) wr)
 case atStart=>exact ⟨0,rfl,by omega,rfl,Bel.refl _⟩
 case round=>
  obtain ⟨j,rfl,hj,rfl,hbr⟩:=hrel;have hkr:=HK.out.later hbr;by_cases hj12:j<12
  ·have hjb:decide ((j:Int)<12)=true:=decide_eq_true (by omega);have hkey:=fun wx=>key_is j wx (by omega)
   have hlk:=fun wx (b':Bel wr wx)=>klookup_is (hkr.later b') hn (keyF j) (by rw [keyF_size];omega)
   have x7:=hkr.at_.1 7 _ rfl;have x15:wr.cell? ⟨p,15,none⟩=some (.slice (some ⟨gw,0,none⟩) (k.vr.length+1) cw):=by rw [←hvw];exact hkr.at_.1 15 _ rfl
   obtain ⟨hl0,hl1⟩:=HLk.out j hj12
   have hW:Hid (∀X,1≤G→k.bs[G - 1]?=some X→∃v:Value,wr.cell? ⟨gw,G,none⟩=some v∧RowAt wr v 12 ((ownersF k.on X (G:Int)).map Value.string)):=fun X h1 hX=>by
    have hr:=hkr.went;have hvw':({k with hd:=k.hd.set n (G:Int)}:KI).vw= .slice (some ⟨gw,0,none⟩) (k.vr.length+1) cw:=hvw;rw [hvw'] at hr;have hc:=World.ownsRow.cellAt hr G (by simp;omega);obtain ⟨m,rfl⟩:∃m,G=m+1:=⟨G - 1,by omega⟩;have hm:m<k.vr.length:=by omega
    have hR:=hkr.wrow.2 m k.vr[m] X (List.getElem?_eq_getElem hm) hX;refine ⟨k.vr[m],by rw [hc];simp [hm],?_⟩;have e:((m+1:Nat):Int)=(m:Int)+1:=by omega
    rw [e];exact RowAt.unmask hR
   clear hkr;rw [hG] at hlk;generalize plOwnF G k.pp[n].2.1.c k.pp[n].2.1.B k.pp[n].2.1.E (keyF j)=lk at *;obtain ⟨lt,le⟩:=lk;have HL0:=Hid.mk hl0;have HL1:=Hid.mk hl1;clear hl0 hl1;go_wp2_with fail;refine (hkey _).mono ?_;rintro e w2 ⟨rfl,hb2⟩;have hbw:Bel wr w2:=Bel.trans (by (repeat (first|exact Bel.refl _|assumption|refine Bel.step_alloc ?_ _|refine Bel.step_drew ?_|refine Bel.step_drewN ?_ _|refine Bel.step_set ?_ (by simp <;>omega) _|refine Bel.trans ?_ (by assumption)))) hb2;have y7:=hbw.cell x7;clear hkey;go_wp2_with fail;refine (hlk _ (by (repeat (first|exact Bel.refl _|assumption|refine Bel.step_alloc ?_ _|refine Bel.step_drew ?_|refine Bel.step_drewN ?_ _|refine Bel.step_set ?_ (by simp <;>omega) _|refine Bel.trans ?_ (by assumption))))).mono ?_;rintro e w3 ⟨rfl,hb3⟩;have hbw3:Bel wr w3:=Bel.trans (by (repeat (first|exact Bel.refl _|assumption|refine Bel.step_alloc ?_ _|refine Bel.step_drew ?_|refine Bel.step_drewN ?_ _|refine Bel.step_set ?_ (by simp <;>omega) _|refine Bel.trans ?_ (by assumption)))) hb3;have z15:=hbw3.cell x15;have HB3:Hid (Bel (w1.setCell ⟨gh,n,none⟩ (.int .i64 (G:Int))) w3):=hbr.trans hbw3;clear hlk y7 x7;by_cases hG0:G=0
   ·subst hG0;have hq:=HL0.out rfl;have hq1:lt=⟨#[]⟩:=congrArg Prod.fst hq;have hq2:le=7:=congrArg Prod.snd hq;subst hq1 hq2;have hnil:(⟨#[]⟩:ByteArray).toList.isEmpty=true:=by kernel_rfl
    clear hq HL0 HL1 hW;go_wp2;go_roundg (12 - (j+1))
    case measure=>omega
    case rel=>exact ⟨j+1,by go_num,by omega,rfl,HB3.out⟩
   ·obtain ⟨X,hX,hq,hok⟩:=HL1.out (by omega);obtain ⟨v,hcv,hRT⟩:=hW.out X (by omega) hX;have hlen:(ownersF k.on X (G:Int)).length=12:=by unfold ownersF;simp
    rw [←hlen] at hRT;obtain ⟨ao,cap,rfl,hTc⟩:=texts_open hRT;obtain ⟨gr,rfl,t0⟩:=hTc j (by omega)
    have htj:(ownersF k.on X (G:Int))[j]'(by omega)=lt:=by
     have e1:lt=(ownerF k.on X (keyF j)).1:=congrArg Prod.fst hq;rw [e1];unfold ownersF;rw [List.getElem_map,List.getElem_range];unfold localF;rw [if_neg (by omega)]
    have hcs:=own_cases hok.1 hok.2 (keyF j);rw [←hq] at hcs;dsimp only at hcs;rw [htj] at t0;have t0':=hbw3.cell t0;have hcv':=hbw3.cell hcv;rw [hlen] at hcv';have hGb:((G:Int)==0)=false:=by rw [beq_eq_false_iff_ne];omega
    clear hTc hRT t0 hcv hW x15 HL0 HL1 hq htj hX hok hlen;rcases hcs with ⟨he1,he2⟩|⟨he1,he2⟩
    ·have hnil:=(nil_beq lt).1 he1;subst he2;go_wp2;go_roundg (12 - (j+1))
     case measure=>omega
     case rel=>exact ⟨j+1,by go_num,by omega,rfl,HB3.out⟩
    ·have hnil:=(nil_beq lt).2 he1;subst he2;go_wp2;go_roundg (12 - (j+1))
     case measure=>omega
     case rel=>exact ⟨j+1,by go_num,by omega,rfl,HB3.out⟩
  ·obtain rfl:j=12:=by omega
   have HB:=Hid.mk hbr;clear hkr;go_wp2;go_ret;exact ⟨_,rfl,HK.out.later HB.out,HNote.out⟩
end Go.Proofs.YtpapdkhjdelfcabGreat
