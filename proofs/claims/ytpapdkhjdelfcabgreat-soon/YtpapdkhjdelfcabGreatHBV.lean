import Derived.Test.YtpapdkhjdelfcabGreatHBU
import Derived.Deep.QuietTactic
import Derived.BigQuiet
set_option maxRecDepth 100000
set_option maxHeartbeats 4000000
namespace Go.Proofs.YtpapdkhjdelfcabGreat
open Go.RowKit
theorem recv_fr (x:KP) (n:Nat) (t:ByteArray):(x.recv n t).fr=x.fr:=by
 unfold KP.recv;split <;>rfl
def roundP (x:KP) (n:Nat) (how:Int):KP:=
 if bits .and .i64 how 1=1 then x.keep (x.tick n)
 else if ((x.keep (x.tick n)).serve (x.tick n)).toList=[] then x.keep (x.tick n)
 else if bits .and .i64 how 2=2 then (x.keep (x.tick n)).keep ((x.keep (x.tick n)).serve (x.tick n))
 else if bits .and .i64 how 4=4 then (((x.keep (x.tick n)).keep ((x.keep (x.tick n)).serve (x.tick n))).recv n ((x.keep (x.tick n)).serve (x.tick n))).recv n ((x.keep (x.tick n)).serve (x.tick n))
 else ((x.keep (x.tick n)).keep ((x.keep (x.tick n)).serve (x.tick n))).recv n ((x.keep (x.tick n)).serve (x.tick n))
theorem nil_beq (t:ByteArray):(t.toList=[]→t.toList.isEmpty=true)∧(t.toList≠[]→t.toList.isEmpty=false):=
 ⟨fun h=>by rw [h];rfl,fun h=>by cases e:t.toList.isEmpty;rfl;exact absurd (List.isEmpty_iff.1 e) h⟩
theorem kround_is {W0:World} {p s:Nat} {k:KI} {w:World} {n:Nat} (h:KInv W0 p s k w) (hs:s≤65600) (hn:n<k.pp.length) (hfb:k.fb≤900000000000) (how:Int):
  Calls Tryz.prog 75 #[.pointer (some ⟨p,0,none⟩),.int .i64 (n:Int),.int .i64 how] w (RTo W0 p s k 2 (roundP k.pu n how)):=by
 have htk:=fun wx (b':Bel w wx)=>ktick_is (h.later b') hn
 have HI:=Hid.mk h;have c7:=h.at_.1 7 _ rfl;have hsz:=KP.tick_size k.pu n;obtain ⟨q,hq⟩:∃q,q=k.pu.tick n:=⟨_,rfl⟩;rw [←hq] at htk hsz;have HQ:=Hid.mk hq;clear h hq;go_enter Tryz.func75,Tryz.ntmps75;go_wp2_with fail;refine (htk _ (by (repeat (first|exact Bel.refl _|assumption|refine Bel.step_alloc ?_ _|refine Bel.step_drew ?_|refine Bel.step_drewN ?_ _|refine Bel.step_set ?_ (by simp <;>omega) _|refine Bel.trans ?_ (by assumption))))).mono ?_;rintro e w1 ⟨rfl,hb1⟩;have hI1:=HI.out.later hb1;have hkp:=kkeep_is hI1 q (by omega) (by omega) (by rw [HQ.out];exact tick_seald (by simpa [KI.pu] using hn)) (fun _=>by rw [HQ.out];exact Tr_tick k n);have d7:=hb1.cell c7;clear htk c7 hI1;go_wp2_with fail;refine hkp.mono ?_;rintro e w2 ⟨rfl,k2,hk2,hT2,hp2⟩;have e7:=hk2.at_.1 7 _ rfl;rw [hT2.q] at e7;clear hkp d7;have hsv:=fun wx (b':Bel w2 wx)=>kserve_is (hk2.later b') hs q (by omega)
 have hsz2:=KP.serve_size k2.pu q;obtain ⟨a,ha⟩:∃a,a=k2.pu.serve q:=⟨_,rfl⟩;rw [←ha] at hsv hsz2;rw [hp2] at ha;have HA:=Hid.mk ha;have HK2:=Hid.mk hk2;have HP2:=Hid.mk hp2;clear hk2 ha hp2;rw [hT2.q] at hsv;by_cases a1:bits .and .i64 how 1=1
 ·have a1b:(bits .and .i64 how 1==1)=true:=by rw [beq_iff_eq];exact a1
  have HX:Hid (roundP k.pu n how=k.pu.keep q):=by
   show _=_;unfold roundP;rw [if_pos a1,HQ.out]
  clear hsv;go_wp2;(try simp only [Exit.inBlock,Exit.then]);refine bodyPost_ret (results_none rfl _ _ _) rfl ?_;exact ⟨rfl,k2,HK2.out,hT2.wide (by omega),HP2.out.trans HX.out.symm⟩
 have a1b:(bits .and .i64 how 1==1)=false:=by rw [beq_eq_false_iff_ne];exact a1
 go_wp2_with fail;refine (hsv _ (by (repeat (first|exact Bel.refl _|assumption|refine Bel.step_alloc ?_ _|refine Bel.step_drew ?_|refine Bel.step_drewN ?_ _|refine Bel.step_set ?_ (by simp <;>omega) _|refine Bel.trans ?_ (by assumption))))).mono ?_;rintro e w3 ⟨rfl,hb3⟩;have hI3:=HK2.out.later hb3;have f7:=hb3.cell e7;clear hsv e7;by_cases a0:a.toList=[]
 ·have a0b:=(nil_beq a).1 a0
  have HX:Hid (roundP k.pu n how=k.pu.keep q):=by
   show _=_;unfold roundP;rw [if_neg a1,←HQ.out,←HA.out,if_pos a0]
  have HI3:=Hid.mk hI3;clear hI3;go_wp2;(try simp only [Exit.inBlock,Exit.then]);refine bodyPost_ret (results_none rfl _ _ _) rfl ?_;exact ⟨rfl,k2,HI3.out,hT2.wide (by omega),HP2.out.trans HX.out.symm⟩
 have a0b:=(nil_beq a).2 a0;have hFa:k2.Tr→FrU k2.on k2.bs a:=fun hT=>by rw [HA.out,←HP2.out];exact Tr_serve hT q
 have HFA:=Hid.mk hFa;have hkp:=kkeep_is hI3 a (by omega) (by have:=hT2.fb;omega) (by rw [HA.out] at a0 ⊢;exact serve_seald a0) hFa;clear hFa;clear hI3;go_wp2_with fail;refine hkp.mono ?_;rintro e w4 ⟨rfl,k4,hk4,hT4,hp4⟩;have g7:=hk4.at_.1 7 _ rfl;have hT4':=hT2.trans hT4;have hFb:k4.Tr→FrU k4.on k4.bs a:=fun hT=>hT.frT a (by have e:k4.fr=(k2.pu.keep a).fr:=congrArg KP.fr hp4;rw [e];exact List.mem_append_right _ (List.mem_singleton.2 rfl))
 have HFB:=Hid.mk hFb;clear hFb;rw [hT4'.q] at g7;have HK4:=Hid.mk hk4;have HP4:=Hid.mk hp4;clear hkp f7 hp4 hT4;by_cases a2:bits .and .i64 how 2=2
 ·have a2b:(bits .and .i64 how 2==2)=true:=by rw [beq_iff_eq];exact a2
  have HX:Hid (roundP k.pu n how=(k.pu.keep q).keep a):=by
   show _=_;unfold roundP;rw [if_neg a1,←HQ.out,←HA.out,if_neg a0,if_pos a2]
  clear hk4;go_wp2;(try simp only [Exit.inBlock,Exit.then]);refine bodyPost_ret (results_none rfl _ _ _) rfl ?_;exact ⟨rfl,k4,HK4.out,hT4',(HP4.out.trans (congrArg (fun x=>x.keep a) HP2.out)).trans HX.out.symm⟩
 have a2b:(bits .and .i64 how 2==2)=false:=by rw [beq_eq_false_iff_ne];exact a2
 have hrc:=krecv_is hk4 (n:=n) (by rw [hT4'.len];exact hn) a (by omega) HFB.out;rw [hT4'.q] at hrc;clear hk4;go_wp2_with fail;refine hrc.mono ?_;rintro e w5 ⟨rfl,k5,hk5,hT5,hp5⟩;have hT5':=hT4'.trans hT5;have i7:=hk5.at_.1 7 _ rfl;rw [hT5'.q] at i7;have HK5:=Hid.mk hk5;have HP5:Hid (k5.pu=((k.pu.keep q).keep a).recv n a):=hp5.trans (congrArg (fun x=>x.recv n a) (HP4.out.trans (congrArg (fun x=>x.keep a) HP2.out)));clear hrc g7 hp5 hT5;by_cases a4:bits .and .i64 how 4=4
 ·have a4b:(bits .and .i64 how 4==4)=true:=by rw [beq_iff_eq];exact a4
  have HX:Hid (roundP k.pu n how=(((k.pu.keep q).keep a).recv n a).recv n a):=by
   show _=_;unfold roundP;rw [if_neg a1,←HQ.out,←HA.out,if_neg a0,if_neg a2,if_pos a4]
  have hrc:=krecv_is hk5 (n:=n) (by rw [hT5'.len];exact hn) a (by omega) (fun hT=>hT.frT a (by have e:k5.fr=(((k.pu.keep q).keep a).recv n a).fr:=congrArg KP.fr HP5.out;rw [e,recv_fr];exact List.mem_append_right _ (List.mem_singleton.2 rfl)));rw [hT5'.q] at hrc;clear hk5;go_wp2_with fail;refine hrc.mono ?_;rintro e w6 ⟨rfl,k6,hk6,hT6,hp6⟩;have HK6:=Hid.mk hk6;have HP6:=Hid.mk hp6;clear hk6 hp6 hrc i7;go_wp2;go_end0;exact ⟨rfl,k6,HK6.out,hT5'.trans hT6,(HP6.out.trans (congrArg (fun x=>x.recv n a) HP5.out)).trans HX.out.symm⟩
 ·have a4b:(bits .and .i64 how 4==4)=false:=by rw [beq_eq_false_iff_ne];exact a4
  have HX:Hid (roundP k.pu n how=((k.pu.keep q).keep a).recv n a):=by
   show _=_;unfold roundP;rw [if_neg a1,←HQ.out,←HA.out,if_neg a0,if_neg a2,if_neg a4]
  clear hk5;go_wp2;go_end0;exact ⟨rfl,k5,HK5.out,hT5',HP5.out.trans HX.out.symm⟩
theorem half_range {b:Int} (h:I64 b):I64 (b.tdiv 2):=by
 unfold I64 at *;rcases Int.le_total 0 b with h1|h1
 ·rw [Int.tdiv_eq_ediv_of_nonneg h1];omega
 ·have:b.tdiv 2= -((-b).tdiv 2):=by rw [Int.neg_tdiv];omega
  rw [this,Int.tdiv_eq_ediv_of_nonneg (by omega)];omega
def oldF (x:KP) (b:Int):ByteArray:=(x.fr[(pickF (b.tdiv 2) (x.fr.length:Int)).toNat]?).getD ⟨#[]⟩
def oldP (x:KP) (n:Nat) (b:Int):KP:=
 if x.fr=[] then x
 else if bits .and .i64 b 1=1 then (if (x.serve (oldF x b)).toList=[] then x else (x.keep (x.serve (oldF x b))).recv n (x.serve (oldF x b)))
 else x.recv n (oldF x b)
theorem frames_cell {W0:World} {p s:Nat} {k:KI} {w:World} (h:KInv W0 p s k w) (hne:k.fr≠[]):∃g cap,k.vf= .slice (some ⟨g,0,none⟩) k.fr.length cap∧∀j (hj:j<k.fr.length),w.cell? ⟨g,j,none⟩=some (.string k.fr[j]):=by
 have hl:0<k.fr.length:=List.length_pos_iff.2 hne;obtain ⟨g,cap,hv, -, -⟩:=World.ownsRow.form h.frames hl;refine ⟨g,cap,hv,fun j hj=>?_⟩;have hr:=h.frames;rw [hv] at hr;have hc:=World.ownsRow.cellAt hr j (by simpa using hj);rw [hc];simp [hj]
theorem kold_is {W0:World} {p s:Nat} {k:KI} {w:World} {n:Nat} (h:KInv W0 p s k w) (hs:s≤65600) (hn:n<k.pp.length) (hfb:k.fb≤900000000000) (b:Int) (hb:I64 b):
  Calls Tryz.prog 76 #[.pointer (some ⟨p,0,none⟩),.int .i64 (n:Int),.int .i64 b] w (RTo W0 p s k 1 (oldP k.pu n b)):=by
 have c7:=h.at_.1 7 _ rfl;have c18:=h.at_.1 18 _ rfl;have HI:=Hid.mk h;by_cases hne:k.fr=[]
 ·have hr:=h.frames;rw [hne] at hr;obtain ⟨av,capv,hv⟩:=own_slice hr;have c18':w.cell? ⟨p,18,none⟩=some (.slice av 0 capv):=by rw [c18,hv];rfl
  have HX:Hid (oldP k.pu n b=k.pu):=by
   show _=_;unfold oldP;rw [if_pos (show k.pu.fr=[] from hne)]
  clear h hr c18 hv;go_enter Tryz.func76,Tryz.ntmps76;go_wp2;(try simp only [Exit.inBlock,Exit.then]);refine bodyPost_ret (results_none rfl _ _ _) rfl ?_;exact ⟨rfl,k,HI.out,KTo.refl k 1,HX.out.symm⟩
 obtain ⟨g,cap,hv,hx⟩:=frames_cell h hne;have hl:0<k.fr.length:=List.length_pos_iff.2 hne;have hfl:=h.flen;have hpk:=fun wx=>pick_is (b.tdiv 2) (k.fr.length:Int) wx (half_range hb) (by omega) (by omega)
 obtain ⟨h1,h2⟩:=pickF_range (b.tdiv 2) (k.fr.length:Int) (by omega);obtain ⟨m,hm⟩:=Int.eq_ofNat_of_zero_le h1;have hml:m<k.fr.length:=by omega
 have hOF:oldF k.pu b=k.fr[m]:=by
  show (k.fr[(pickF (b.tdiv 2) (k.fr.length:Int)).toNat]?).getD ⟨#[]⟩=_;rw [hm,Int.toNat_natCast,List.getElem?_eq_getElem hml];rfl
 have hfs:=h.fsz _ (List.getElem_mem hml);rw [hm] at hpk;have hxm:=hx m hml;have c18':w.cell? ⟨p,18,none⟩=some (.slice (some ⟨g,0,none⟩) k.fr.length cap):=by rw [c18,hv]
 have hsv:=fun wx (b':Bel w wx)=>kserve_is (h.later b') hs k.fr[m] hfs
 have hrc:=fun wx (b':Bel w wx)=>krecv_is (h.later b') hn k.fr[m] hfs (fun hT=>hT.frT _ (List.getElem_mem hml))
 have hsz2:=KP.serve_size k.pu k.fr[m];have hlz:((k.fr.length:Int)==0)=false:=by rw [beq_eq_false_iff_ne];omega
 have HN:Hid (∀y,(bits .and .i64 b 1=1→y=(if (k.pu.serve k.fr[m]).toList=[] then k.pu else (k.pu.keep (k.pu.serve k.fr[m])).recv n (k.pu.serve k.fr[m])))→(¬bits .and .i64 b 1=1→y=k.pu.recv n k.fr[m])→y=oldP k.pu n b):=fun y y1 y2=>by
  unfold oldP;rw [if_neg (show ¬k.pu.fr=[] from hne),hOF];split
  ·rename_i ha;exact y1 ha
  ·rename_i ha;exact y2 ha
 clear h1 h2 hm hx hOF h c18 hv hne hfs;generalize k.fr[m]=f at *;generalize k.fr.length=nn at *;obtain ⟨a,ha⟩:∃a,a=k.pu.serve f:=⟨_,rfl⟩;rw [←ha] at hsv hsz2 HN;have HA:=Hid.mk ha;clear ha;unfold I64 at hb;go_enter Tryz.func76,Tryz.ntmps76;go_wp2_with fail;go_quiet ((go_at_call 70;refine Calls.quiet_of_same ((hpk _).mono fun e w2 h=>⟨h.1,h.2.symm⟩)));by_cases a1:bits .and .i64 b 1=1
 rotate_left
 ·have a1b:(bits .and .i64 b 1==1)=false:=by rw [beq_eq_false_iff_ne];exact a1
  have HY:Hid (k.pu.recv n f=oldP k.pu n b):=HN.out _ (fun e=>absurd e a1) (fun _=>rfl);clear hsv HN;go_wp2_with fail;refine (hrc _ (by (repeat (first|exact Bel.refl _|assumption|refine Bel.step_alloc ?_ _|refine Bel.step_drew ?_|refine Bel.step_drewN ?_ _|refine Bel.step_set ?_ (by simp <;>omega) _|refine Bel.trans ?_ (by assumption))))).mono ?_;rintro e w5 ⟨rfl,k5,hk5,hT5,hp5⟩;have HK5:=Hid.mk hk5;have HP5:=Hid.mk hp5;clear hk5 hp5 hrc;go_wp2;go_end0;exact ⟨rfl,k5,HK5.out,hT5.wide (by omega),HP5.out.trans HY.out⟩
 have a1b:(bits .and .i64 b 1==1)=true:=by rw [beq_iff_eq];exact a1
 clear hrc;go_wp2_with fail;refine (hsv _ (by (repeat (first|exact Bel.refl _|assumption|refine Bel.step_alloc ?_ _|refine Bel.step_drew ?_|refine Bel.step_drewN ?_ _|refine Bel.step_set ?_ (by simp <;>omega) _|refine Bel.trans ?_ (by assumption))))).mono ?_;rintro e w3 ⟨rfl,hb3⟩;have hbw:Bel w w3:=Bel.trans (by (repeat (first|exact Bel.refl _|assumption|refine Bel.step_alloc ?_ _|refine Bel.step_drew ?_|refine Bel.step_drewN ?_ _|refine Bel.step_set ?_ (by simp <;>omega) _|refine Bel.trans ?_ (by assumption)))) hb3;have hI3:=HI.out.later hbw;have f7:=hbw.cell c7;clear hsv;by_cases a0:a.toList=[]
 ·have a0b:=(nil_beq a).1 a0;have HY:Hid (k.pu=oldP k.pu n b):=HN.out _ (fun _=>by rw [if_pos a0]) (fun e=>absurd a1 e);have HI3:=Hid.mk hI3;clear hI3 HN;go_wp2;(try simp only [Exit.inBlock,Exit.then]);refine bodyPost_ret (results_none rfl _ _ _) rfl ?_;exact ⟨rfl,k,HI3.out,KTo.refl k 1,HY.out⟩
 have a0b:=(nil_beq a).2 a0;have HY:Hid ((k.pu.keep a).recv n a=oldP k.pu n b):=HN.out _ (fun _=>by rw [if_neg a0]) (fun e=>absurd a1 e);have hkp:=kkeep_is hI3 a (by omega) (by omega) (by rw [HA.out] at a0 ⊢;exact serve_seald a0) (fun hT=>by rw [HA.out];exact Tr_serve hT f);clear hI3 HN;go_wp2_with fail;refine hkp.mono ?_;rintro e w4 ⟨rfl,k4,hk4,hT4,hp4⟩;have g7:=hk4.at_.1 7 _ rfl;rw [hT4.q] at g7;have HP4:=Hid.mk hp4;have hrc:=krecv_is hk4 (n:=n) (by rw [hT4.len];exact hn) a (by omega) (fun hT=>hT.frT a (by have e:k4.fr=(k.pu.keep a).fr:=congrArg KP.fr HP4.out;rw [e];exact List.mem_append_right _ (List.mem_singleton.2 rfl)));rw [hT4.q] at hrc;clear hkp f7 hp4 hk4;go_wp2_with fail;refine hrc.mono ?_;rintro e w5 ⟨rfl,k5,hk5,hT5,hp5⟩;have HK5:=Hid.mk hk5;have HP5:=Hid.mk hp5;clear hk5 hp5 hrc g7;go_wp2;go_end0;exact ⟨rfl,k5,HK5.out,hT4.trans hT5,(HP5.out.trans (congrArg (fun x=>x.recv n a) HP4.out)).trans HY.out⟩
end Go.Proofs.YtpapdkhjdelfcabGreat
namespace Go.Proofs.YtpapdkhjdelfcabGreat
open Go.RowKit
theorem kheld_is {W0:World} {p s:Nat} {k:KI} {w:World} {n:Nat} (h:KInv W0 p s k w) (hn:n<k.pp.length):
  Calls Tryz.prog 32 #[.pointer (some ⟨k.q,0,none⟩),.int .i64 (n:Int)] w (RHeld w (heldF k.pp[n].2.1.g k.pp[n].2.1.nf)):=held_v h.svc hn
theorem klookup_is {W0:World} {p s:Nat} {k:KI} {w:World} {n:Nat} (h:KInv W0 p s k w) (hn:n<k.pp.length) (t:ByteArray) (ht:t.size≤1000):
  Calls Tryz.prog 33 #[.pointer (some ⟨k.q,0,none⟩),.int .i64 (n:Int),.string t] w (RStrErr w (plOwnF k.pp[n].2.1.g k.pp[n].2.1.c k.pp[n].2.1.B k.pp[n].2.1.E t)):=lookup_v h.svc hn t (by omega)
theorem probe_fm (c:Cfg) (f:Int) (E:List EI) (k:ByteArray):∀n,probeTo {c with formats:=f} E k n=probeTo c E k n
 |0=>rfl
 |n+1=>by rw [probeTo,probeTo,probe_fm c f E k n]
theorem ownE_fm (c:Cfg) (f:Int) (B:List BK) (E:List EI) (k:ByteArray):ownE {c with formats:=f} B E k=ownE c B E k:=by
 have e:findF {c with formats:=f} E k=findF c E k:=by
  unfold findF;rw [probe_fm]
 unfold ownE;rw [e]
def on_ok (on:Cfg) (X:List BK):Prop:=on.OK∧Good X
theorem own_cases {on:Cfg} {X:List BK} (hc:on.OK) (hX:Good X) (k:ByteArray):((ownerF on X k).1.toList=[]∧(ownerF on X k).2=8)∨((ownerF on X k).1.toList≠[]∧(ownerF on X k).2=0):=by
 unfold ownerF;split
 ·rename_i e he;refine Or.inr ⟨?_,rfl⟩;obtain ⟨j,hj,h2, -⟩:=(mkF_right hc hX).2.1 e (List.mem_of_getElem? he);have hn:nameF X e.2=X[j].1:=by rw [h2,nameF,if_neg (by omega),Int.toNat_natCast,List.getElem?_eq_getElem hj];rfl
  show (nameF X e.2).toList≠[];rw [hn];intro h0;have h1:=(hX.1.2 _ (List.getElem_mem hj)).1;have e1:ByteArray.empty.toList=[]:=by kernel_rfl
  have h3:X[j].1=ByteArray.empty:=str_eq.1 (by rw [h0,e1];rfl);rw [h3] at h1;exact absurd h1 (by decide)
 ·exact Or.inl ⟨by kernel_rfl,rfl⟩
def RStand (W0:World) (p s:Nat) (k:KI) (e:Ending) (w':World):Prop:=∃hd',e= .returned (.bool true)∧KInv W0 p s {k with hd:=hd'} w'∧({k with hd:=hd'}:KI).Tr
theorem Tr_note {k:KI} {n:Nat} (hn:n<k.pp.length) (hT:k.Tr):({k with hd:=k.hd.set n ((k.pp[n]).2.1.g:Int)}:KI).Tr:=by
 refine ⟨hT.hist,hT.glen,hT.last,hT.frT,hT.plT,fun m x p hx hp=>?_,hT.spT⟩;have hx':(k.hd.set n ((k.pp[n]).2.1.g:Int))[m]?=some x:=hx;by_cases e:n=m
 ·subst e;have hl:=(List.getElem?_eq_some_iff.1 hx').1;rw [List.length_set] at hl;rw [List.getElem?_set_self hl] at hx';rw [List.getElem?_map,List.getElem?_eq_getElem hn] at hp;rw [←Option.some.inj hx',←Option.some.inj hp];exact Int.le_refl _
 ·rw [List.getElem?_set_ne e] at hx';exact hT.hdT m x p hx' hp
theorem kstands_is {W0:World} {p s:Nat} {k:KI} {w:World} {n:Nat} (h:KInv W0 p s k w) (hs:s≤65600) (hd0:k.dh=0) (hn:n<k.pp.length) (hT:k.Tr):
  Calls Tryz.prog 80 #[.pointer (some ⟨p,0,none⟩),.int .i64 (n:Int)] w (RStand W0 p s k):=by
 have hhd:=fun wx (b':Bel w wx)=>kheld_is (h.later b') hn
 have hnl:n<k.hd.length:=by have:=h.hlen;omega
 obtain ⟨gh,ch,hvh, -, -⟩:=World.ownsRow.form h.held (by omega:0<k.hd.length);obtain ⟨gw,cw,hvw, -, -⟩:=World.ownsRow.form h.went (by omega);have hrow:=h.held;rw [hvh] at hrow
 have ch0:w.cell? ⟨gh,n,none⟩=some (.int .i64 k.hd[n]):=by
  have hc:=World.ownsRow.cellAt hrow n (by simpa using hnl);rw [hc];simp [hnl]
 have fh0:w.frozen? ⟨gh,n,none⟩=false:=World.ownsRow.frozenAt hrow n;have hrg:=h.hrng _ (List.getElem_mem hnl);have c7:=h.at_.1 7 _ rfl;have c15:w.cell? ⟨p,15,none⟩=some (.slice (some ⟨gw,0,none⟩) (k.vr.length+1) cw):=by rw [←hvw];exact h.at_.1 15 _ rfl
 have c17:w.cell? ⟨p,17,none⟩=some (.slice (some ⟨gh,0,none⟩) k.hd.length ch):=by rw [←hvh];exact h.at_.1 17 _ rfl
 have hwl:=h.wlen;have hgn:=h.gen;have hbl:=h.wrow.1;have HI:=Hid.mk h;have hle:=hT.hdT n k.hd[n] (k.pp[n]).2.1 (List.getElem?_eq_getElem hnl) (by rw [List.getElem?_map,List.getElem?_eq_getElem hn];rfl);have hPl:PlU k.on k.bs (k.pp[n]).2.1:=hT.plT _ (List.mem_map.2 ⟨k.pp[n],List.getElem_mem hn,rfl⟩);have HNote:=Hid.mk (Tr_note hn hT);have hH:=hT.hist
 have HLk:Hid (∀j,j<12→((k.pp[n]).2.1.g=0→plOwnF (k.pp[n]).2.1.g (k.pp[n]).2.1.c (k.pp[n]).2.1.B (k.pp[n]).2.1.E (keyF j)=(⟨#[]⟩,7))∧(1≤(k.pp[n]).2.1.g→∃X,k.bs[(k.pp[n]).2.1.g - 1]?=some X∧plOwnF (k.pp[n]).2.1.g (k.pp[n]).2.1.c (k.pp[n]).2.1.B (k.pp[n]).2.1.E (keyF j)=ownerF k.on X (keyF j)∧on_ok k.on X)):=fun j _=>by
  refine ⟨fun e=>by unfold plOwnF;rw [if_pos e],fun e=>?_⟩;rcases hPl.1.2 with h0|⟨X,h1,h2,h3,h4,h5⟩
  ·omega
  ·refine ⟨X,h2,?_,hH.1,hH.2.2 X (List.mem_of_getElem? h2)⟩;unfold plOwnF;rw [if_neg (by omega),h3,h4,h5,ownE_fm];rfl
 have hGle:(k.pp[n]).2.1.g≤k.vr.length:=by
  rcases hPl.1.2 with h0|⟨X,h1,h2, -⟩
  ·omega
  ·have:=(List.getElem?_eq_some_iff.1 h2).1;omega
 clear hPl hH hT;generalize hG:k.pp[n].2.1.g=G at *;generalize k.pp[n].2.1.nf=nf at *;generalize hH:k.hd[n]=H at *;clear h hrow;unfold heldF at hhd;generalize (if nf=true then (11:Int) else 0)=xe at hhd;go_enter Tryz.func80,Tryz.ntmps80;go_wp2_with fail;refine (hhd _ (by (repeat (first|exact Bel.refl _|assumption|refine Bel.step_alloc ?_ _|refine Bel.step_drew ?_|refine Bel.step_drewN ?_ _|refine Bel.step_set ?_ (by simp <;>omega) _|refine Bel.trans ?_ (by assumption))))).mono ?_;rintro e w1 ⟨rfl,hb1⟩;have d15:=hb1.cell c15;have d17:=hb1.cell c17;have d7:=hb1.cell c7;have dh0:=hb1.cell ch0;have gh0:=hb1.frozen ch0 fh0;have HI1:=Hid.mk (HI.out.later hb1);clear hhd c15 c17 c7 ch0 fh0;have g1b:decide ((G:Int)<H)=false:=decide_eq_false (by omega);have g2b:decide ((G:Int)≥((k.vr.length+1:Nat):Int))=false:=decide_eq_false (by omega);have g2c:decide ((G:Int)≥(k.vr.length:Int)+1)=false:=decide_eq_false (by omega);have HK:=Hid.mk (HI1.out.note hvh hnl (x:=(G:Int)) (by omega));clear HI1;go_wp2;go_loopg [7] 12 (fun r nk wr=>∃j:Nat,nk= .int .i64 (j:Int)∧j≤12∧r=12 - j∧Bel (w1.setCell ⟨gh,n,none⟩ (.int .i64 (G:Int))) wr)
 case atStart=>exact ⟨0,rfl,by omega,rfl,Bel.refl _⟩
 case round=>
  obtain ⟨j,rfl,hj,rfl,hbr⟩:=hrel;have hkr:=HK.out.later hbr;by_cases hj12:j<12
  ·have hjb:decide ((j:Int)<12)=true:=decide_eq_true (by omega);have hkey:=fun wx=>key_is j wx (by omega)
   have hlk:=fun wx (b':Bel wr wx)=>klookup_is (hkr.later b') hn (keyF j) (by rw [keyF_size];omega)
   have x7:=hkr.at_.1 7 _ rfl;have x15:wr.cell? ⟨p,15,none⟩=some (.slice (some ⟨gw,0,none⟩) (k.vr.length+1) cw):=by rw [←hvw];exact hkr.at_.1 15 _ rfl
   obtain ⟨hl0,hl1⟩:=HLk.out j hj12
   have hW:Hid (∀X,1≤G→k.bs[G - 1]?=some X→∃v:Value,wr.cell? ⟨gw,G,none⟩=some v∧RowAt wr v 12 ((ownersF k.on X (G:Int)).map Value.string)):=fun X h1 hX=>by
    have hr:=hkr.went;have hvw':({k with hd:=k.hd.set n (G:Int)}:KI).vw= .slice (some ⟨gw,0,none⟩) (k.vr.length+1) cw:=hvw;rw [hvw'] at hr;have hc:=World.ownsRow.cellAt hr G (by simp;omega);obtain ⟨m,rfl⟩:∃m,G=m+1:=⟨G - 1,by omega⟩;have hm:m<k.vr.length:=by omega
    have hR:=hkr.wrow.2 m k.vr[m] X (List.getElem?_eq_getElem hm) hX;refine ⟨k.vr[m],by rw [hc];simp [hm],?_⟩;have e:((m+1:Nat):Int)=(m:Int)+1:=by omega
    rw [e];exact RowAt.unmask hR
   clear hkr;rw [hG] at hlk;generalize plOwnF G k.pp[n].2.1.c k.pp[n].2.1.B k.pp[n].2.1.E (keyF j)=lk at *;obtain ⟨lt,le⟩:=lk;have HL0:=Hid.mk hl0;have HL1:=Hid.mk hl1;clear hl0 hl1;go_wp2_with fail;refine (hkey _).mono ?_;rintro e w2 ⟨rfl,hb2⟩;have hbw:Bel wr w2:=Bel.trans (by (repeat (first|exact Bel.refl _|assumption|refine Bel.step_alloc ?_ _|refine Bel.step_drew ?_|refine Bel.step_drewN ?_ _|refine Bel.step_set ?_ (by simp <;>omega) _|refine Bel.trans ?_ (by assumption)))) hb2;have y7:=hbw.cell x7;clear hkey;go_wp2_with fail;refine (hlk _ (by (repeat (first|exact Bel.refl _|assumption|refine Bel.step_alloc ?_ _|refine Bel.step_drew ?_|refine Bel.step_drewN ?_ _|refine Bel.step_set ?_ (by simp <;>omega) _|refine Bel.trans ?_ (by assumption))))).mono ?_;rintro e w3 ⟨rfl,hb3⟩;have hbw3:Bel wr w3:=Bel.trans (by (repeat (first|exact Bel.refl _|assumption|refine Bel.step_alloc ?_ _|refine Bel.step_drew ?_|refine Bel.step_drewN ?_ _|refine Bel.step_set ?_ (by simp <;>omega) _|refine Bel.trans ?_ (by assumption)))) hb3;have z15:=hbw3.cell x15;have HB3:Hid (Bel (w1.setCell ⟨gh,n,none⟩ (.int .i64 (G:Int))) w3):=hbr.trans hbw3;clear hlk y7 x7;by_cases hG0:G=0
   ·subst hG0;have hq:=HL0.out rfl;have hq1:lt=⟨#[]⟩:=congrArg Prod.fst hq;have hq2:le=7:=congrArg Prod.snd hq;subst hq1 hq2;have hnil:(⟨#[]⟩:ByteArray).toList.isEmpty=true:=by kernel_rfl
    clear hq HL0 HL1 hW;go_wp2;go_roundg (12 - (j+1))
    case measure=>omega
    case rel=>exact ⟨j+1,by go_num,by omega,rfl,HB3.out⟩
   ·obtain ⟨X,hX,hq,hok⟩:=HL1.out (by omega);obtain ⟨v,hcv,hRT⟩:=hW.out X (by omega) hX;have hlen:(ownersF k.on X (G:Int)).length=12:=by unfold ownersF;simp
    rw [←hlen] at hRT;obtain ⟨ao,cap,rfl,hTc⟩:=texts_open hRT;obtain ⟨gr,rfl,t0⟩:=hTc j (by omega)
    have htj:(ownersF k.on X (G:Int))[j]'(by omega)=lt:=by
     have e1:lt=(ownerF k.on X (keyF j)).1:=congrArg Prod.fst hq;rw [e1];unfold ownersF;rw [List.getElem_map,List.getElem_range];unfold localF;rw [if_neg (by omega)]
    have hcs:=own_cases hok.1 hok.2 (keyF j);rw [←hq] at hcs;dsimp only at hcs;rw [htj] at t0;have t0':=hbw3.cell t0;have hcv':=hbw3.cell hcv;rw [hlen] at hcv';have hGb:((G:Int)==0)=false:=by rw [beq_eq_false_iff_ne];omega
    clear hTc hRT t0 hcv hW x15 HL0 HL1 hq htj hX hok hlen;rcases hcs with ⟨he1,he2⟩|⟨he1,he2⟩
    ·have hnil:=(nil_beq lt).1 he1;subst he2;go_wp2;go_roundg (12 - (j+1))
     case measure=>omega
     case rel=>exact ⟨j+1,by go_num,by omega,rfl,HB3.out⟩
    ·have hnil:=(nil_beq lt).2 he1;subst he2;go_wp2;go_roundg (12 - (j+1))
     case measure=>omega
     case rel=>exact ⟨j+1,by go_num,by omega,rfl,HB3.out⟩
  ·obtain rfl:j=12:=by omega
   have HB:=Hid.mk hbr;clear hkr;go_wp2;go_ret;exact ⟨_,rfl,HK.out.later HB.out,HNote.out⟩
end Go.Proofs.YtpapdkhjdelfcabGreat
