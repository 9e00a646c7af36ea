import Derived.Test.YtpapdkhjdelfcabGreatHBS
import Derived.Test.YtpapdkhjdelfcabGreatHBT
import Derived.Test.YtpapdkhjdelfcabGreatHBQ
set_option maxRecDepth 100000
set_option maxHeartbeats 4000000
namespace Go.Proofs.YtpapdkhjdelfcabGreat
open Go.RowKit
theorem Tr_join {on:Cfg} {bs:List (List BK)} {g:Int} {B:List BK} {fr:List ByteArray} {pl:List Pln} {hd sp:List Int} {fm:Nat} (h:TruP on bs g B fr pl hd sp) (hl:hd.length=pl.length) (hl2:sp.length=pl.length):TruP on bs g B fr (pl++[plnNew fm]) (hd++[0]) (sp++[(fm:Int)]):=by
 refine ⟨h.hist,h.glen,h.last,h.frT,fun p hp=>?_,fun n x p hx hp=>?_,fun n x p hx hp=>?_⟩
 ·rcases List.mem_append.1 hp with e|e
  ·exact h.plT p e
  ·rw [List.mem_singleton.1 e];exact new_U _ _ _
 ·by_cases hn:n<hd.length
  ·rw [List.getElem?_append_left hn] at hx;rw [List.getElem?_append_left (by omega)] at hp;exact h.hdT n x p hx hp
  ·have hn2:n=hd.length:=by
    have:=(List.getElem?_eq_some_iff.1 hx).1;rw [List.length_append,List.length_singleton] at this;omega
   rw [List.getElem?_append_right (by omega),hn2,Nat.sub_self] at hx
   have:(0:Int)=x:=Option.some.inj hx
   omega
 ·by_cases hn:n<sp.length
  ·rw [List.getElem?_append_left hn] at hx;rw [List.getElem?_append_left (by omega)] at hp;exact h.spT n x p hx hp
  ·have hn2:n=sp.length:=by
    have:=(List.getElem?_eq_some_iff.1 hx).1;rw [List.length_append,List.length_singleton] at this;omega
   rw [List.getElem?_append_right (by omega),hn2,Nat.sub_self] at hx
   rw [List.getElem?_append_right (by omega),hn2,hl2,Nat.sub_self] at hp
   have e1:((fm:Nat):Int)=x:=Option.some.inj hx
   have e2:plnNew fm=p:=Option.some.inj hp
   rw [←e1,←e2]
   rfl
theorem step_join (W0:World) (p s:Nat) (k:KI) (a b c:Int) (S:ByteArray) (w:World) (h:KInv W0 p s k w) (hR:k.Rdy s) (ha:I64 a):
  Calls Tryz.prog 36 #[.pointer (some ⟨p,0,none⟩),opV 6 a b c S] w (RStep W0 p (s+1) FSt):=by
 have hpk:=fun wx=>pick_is a 3 wx ha (by omega) (by omega)
 obtain ⟨h1,h2⟩:=pickF_range a 3 (by omega);obtain ⟨m,hm⟩:=Int.eq_ofNat_of_zero_le h1;rw [hm] at hpk h2;have hlen:=h.hlen;have hslen:=h.slen;obtain ⟨hR1,hR2,hR3,hR4⟩:=hR;have HR4:=Hid.mk hR4;clear hR4;have c7:=h.at_.1 7 _ rfl;have c17:=h.at_.1 17 _ rfl;have hplt:=h.at_.lt (by rw [wl_len];decide);have hw0:=h.bel.size;obtain ⟨ah,caph,hvh⟩:=own_slice h.held;obtain ⟨asp,caps,hvs⟩:=own_slice h.speaks;have HI:=Hid.mk h;have hle4:=h.svc.le4;have hle4':k.pp.length≤4:=hle4;by_cases hfull:k.pp.length=4
 ·have hjf:=fun wx (b':Bel w wx)=>joinfull_v (h.later b').svc (by show 4≤k.pp.length;omega) (f:=1+(m:Int)) (by omega)
  have c17':w.cell? ⟨p,17,none⟩=some (.slice ah 4 caph):=by rw [c17,hvh];congr 2;omega
  clear h hle4 c17 h1 hm;unfold opV;go_enter Tryz.func36,Tryz.ntmps36;go_wp2_with fail;refine (hpk _).mono ?_;rintro e w2 ⟨rfl,rfl⟩;clear hpk;go_wp2_with fail;refine (hjf _ (by (repeat (first|exact Bel.refl _|assumption|refine Bel.step_alloc ?_ _|refine Bel.step_drew ?_|refine Bel.step_drewN ?_ _|refine Bel.step_set ?_ (by simp <;>omega) _|refine Bel.trans ?_ (by assumption))))).mono ?_;rintro e w2 ⟨rfl,hb2⟩;have hbw:Bel w w2:=Bel.trans (by (repeat (first|exact Bel.refl _|assumption|refine Bel.step_alloc ?_ _|refine Bel.step_drew ?_|refine Bel.step_drewN ?_ _|refine Bel.step_set ?_ (by simp <;>omega) _|refine Bel.trans ?_ (by assumption)))) hb2;have d17:=hbw.cell c17';clear hjf;go_wp2;go_ret;exact Or.inl ⟨rfl,k,(HI.out.later hbw).up (by omega),⟨hR1,hR2,Nat.le_trans hR3 (Nat.mul_le_mul_right _ (by omega)),HR4.out⟩⟩
 have hjn:=fun wx (b':Bel w wx)=>join_v (h.later b').svc (fun j hj=>((h.later b').lt j hj).2) (by show k.pp.length<4;omega) (fm:=1+m) (by omega)
 have em:((1+m:Nat):Int)=1+(m:Int):=by omega
 rw [em] at hjn;have HJ:=Hid.mk hjn;clear h hle4 c17 h1 hm hjn;obtain ⟨i0,hi,hz0,hz1,hz2⟩:=info_parts Tryz.infoInt;unfold opV;go_enter Tryz.func36,Tryz.ntmps36;go_wp2_with fail;refine (hpk _).mono ?_;rintro e w2 ⟨rfl,rfl⟩;clear hpk;go_wp2_with fail;refine (HJ.out _ (by (repeat (first|exact Bel.refl _|assumption|refine Bel.step_alloc ?_ _|refine Bel.step_drew ?_|refine Bel.step_drewN ?_ _|refine Bel.step_set ?_ (by simp <;>omega) _|refine Bel.trans ?_ (by assumption))))).mono ?_;intro e w2 hr
 have hbt:Hid (But (k.q::k.L) (w.alloc (.cells #[.int .i64 6,.int .i64 a,.int .i64 b,.int .i64 c,.string S] 48)) w2):=by
  obtain ⟨_,_,_,hh,_⟩:=hr;exact hh
 obtain ⟨rfl,K,L',pz,hk2⟩:=(HI.out.later (Bel.step_alloc (Bel.refl w) _)).joined hr
 have hnq:w.heap.size∉(k.q::k.L):=fun e=>by
  have hm:w.heap.size∈k.svp.own k.q:=List.mem_cons.2 ((List.mem_cons.1 e).imp id (List.mem_append_left _));have:=(HI.out.lt _ (HI.out.inM _ (List.mem_cons_of_mem _ (List.mem_append_right _ hm)))).2;omega
 have x0:w2.cell? ⟨w.heap.size,0,none⟩=some (.int .i64 6):=hbt.out.cell (by simp) hnq;have x7:=hk2.at_.1 7 _ rfl;have x17:w2.cell? ⟨p,17,none⟩=some (.slice ah k.hd.length caph):=by rw [←hvh];exact hk2.at_.1 17 _ rfl
 have y17:=hk2.at_.2 17 (by rw [wl_len];decide);have hs2:=Nat.le_trans (by simp:w.heap.size+1≤(w.alloc (.cells #[.int .i64 6,.int .i64 a,.int .i64 b,.int .i64 c,.string S] 48)).heap.size) hbt.out.size
 have HR2:Hid (w2.ownsRow W0.heap.size 3 1 (.slice ah k.hd.length caph) k.hd.length (k.hd.map (Value.int .i64))):=by
  show w2.ownsRow _ _ _ _ _ _;rw [←hvh];exact hk2.held
 have HK2:=Hid.mk hk2;have hgl2:Hid (gl k.vh=(Value.slice ah k.hd.length caph).ownBlock.toList):=by show gl k.vh=_;rw [hvh];rfl
 have hpn2:p∉gl k.vh:=fun e=>HI.out.apart.2.2.1 p e rfl
 have hlb:((k.hd.length:Int)==4)=false:=by rw [beq_eq_false_iff_ne];omega
 obtain ⟨nh,hnh⟩:∃nh,nh=k.hd.length:=⟨_,rfl⟩;obtain ⟨xh,hxh⟩:∃xh,xh=k.hd.map (Value.int .i64):=⟨_,rfl⟩;rw [←hnh] at x17 HR2 hlb hgl2;rw [←hxh] at HR2;have hxl:xh.length=nh:=by rw [hxh,hnh,List.length_map]
 have HNH:=Hid.mk hnh;have HXH:=Hid.mk hxh;have hnh1:nh+k.dh=k.pp.length:=by omega
 clear hnh hxh;clear hk2 hr HJ c7 hbt hnq;go_wp2_with (first|(at_builtin;refine wpList_append_lies _ rfl _ _ 59 rfl W0.heap.size 3 i0 (.int .i64 0) 1 8 Tryz.underlying59 hi hz0 hz1 hz2 rfl (by decide) _ nh xh rfl ?p1a ⟨w2.heap.size,0,none⟩ 1 1 [.int .i64 0] rfl rfl ?da1 ?da2 (by decide) ?da3 ?da4 ?da5 _ rfl ?_))
 case p1a=>exact World.ownsRow.alloc HR2.out _
 try (case da1=>exact one_new _ _ _ _ (by simp))
 case da2=>first|rfl|(intro u hu;simp at hu;subst hu;rfl)
 case da3=>unfold maxLen;omega
 case da4=>omega
 case da5=>first|omega|(simp;omega)
 intro gh ch w3 hown3 hgrow3 hat3 hlt3;have b3:But (gl k.vh) w2 w3:=by rw [hgl2.out];exact (But.of_bel (Bel.step_alloc (Bel.refl w2) _)).trans (grown_but hgrow3)
 have hat3':k.vh.ownBlock=some gh∨w2.heap.size≤gh:=by
  rw [hvh,←HNH.out];exact hat3.imp id (fun e=>by first|omega|(rw [e];simp))
 have hk3:=HK2.out.heldApp (x:=0) b3 (by rw [←HNH.out,←HXH.out];exact hown3) hat3' (by omega) (by show 1≤k.dh+1;omega);rw [←HNH.out] at hk3;have z7:=b3.cell x7 hpn2;have z17:=b3.cell x17 hpn2;have t17:=b3.frozen x17 hpn2 y17;have hs3:=b3.size;have z16:(w3.setCell ⟨p,17,none⟩ (.slice (some ⟨gh,0,none⟩) (nh+1) ch)).cell? ⟨p,16,none⟩=some (.slice asp k.sp.length caps):=by rw [←hvs];exact hk3.at_.1 16 _ rfl
 have t16:(w3.setCell ⟨p,17,none⟩ (.slice (some ⟨gh,0,none⟩) (nh+1) ch)).frozen? ⟨p,16,none⟩=false:=hk3.at_.2 16 (by rw [wl_len];decide);rw [set_other (by simp)] at z16;rw [frozen_set] at t16
 have HR3:Hid ((w3.setCell ⟨p,17,none⟩ (.slice (some ⟨gh,0,none⟩) (nh+1) ch)).ownsRow W0.heap.size 3 1 (.slice asp k.sp.length caps) k.sp.length (k.sp.map (Value.int .i64))):=by
  show World.ownsRow _ _ _ _ _ _ _;rw [←hvs];exact hk3.speaks
 have HK3:=Hid.mk hk3;have hgl3:Hid (gl k.vs=(Value.slice asp k.sp.length caps).ownBlock.toList):=by show gl k.vs=_;rw [hvs];rfl
 have hpn3:p∉gl k.vs:=fun e=>HI.out.apart.2.1 p e rfl
 obtain ⟨ns,hns⟩:∃ns,ns=k.sp.length:=⟨_,rfl⟩;obtain ⟨xs,hxs⟩:∃xs,xs=k.sp.map (Value.int .i64):=⟨_,rfl⟩;rw [←hns] at z16 HR3 hgl3;rw [←hxs] at HR3;have hxl3:xs.length=ns:=by rw [hxs,hns,List.length_map]
 have HNS:=Hid.mk hns;have HXS:=Hid.mk hxs;have hns1:ns+k.ds=k.pp.length:=by omega
 clear hns hxs;have x0':w3.cell? ⟨w.heap.size,0,none⟩=some (.int .i64 6)∨True:=Or.inr trivial;have hsz3:(w3.setCell ⟨p,17,none⟩ (.slice (some ⟨gh,0,none⟩) (nh+1) ch)).heap.size=w3.heap.size:=size_setCell _ _ _;clear hown3 hgrow3 hat3 hk3 HK2 HR2 x7 x17 y17 b3 hat3' x0 x0';go_wp2_with (first|(at_builtin;refine wpList_append_lies _ rfl _ _ 59 rfl W0.heap.size 3 i0 (.int .i64 0) 1 8 Tryz.underlying59 hi hz0 hz1 hz2 rfl (by decide) _ ns xs rfl ?p1b ⟨w3.heap.size,0,none⟩ 1 1 [.int .i64 (1+(m:Int))] rfl rfl ?db1 ?db2 (by decide) ?db3 ?db4 ?db5 _ rfl ?_))
 case p1b=>exact World.ownsRow.alloc HR3.out _
 try (case db1=>exact one_new _ _ _ _ (by simp))
 case db2=>first|rfl|(intro u hu;simp at hu;subst hu;rfl)
 case db3=>unfold maxLen;omega
 case db4=>omega
 case db5=>first|omega|(simp;omega)
 intro gs cs w5 hown5 hgrow5 hat5 hlt5;have b5:But (gl k.vs) (w3.setCell ⟨p,17,none⟩ (.slice (some ⟨gh,0,none⟩) (nh+1) ch)) w5:=by rw [hgl3.out];exact (But.of_bel (Bel.step_alloc (Bel.refl _) _)).trans (grown_but hgrow5)
 have hat5':k.vs.ownBlock=some gs∨(w3.setCell ⟨p,17,none⟩ (.slice (some ⟨gh,0,none⟩) (nh+1) ch)).heap.size≤gs:=by
  rw [hvs,←HNS.out,hsz3];exact hat5.imp id (fun e=>by first|omega|(rw [e];simp))
 have hk5:=HK3.out.spApp (x:=1+(m:Int)) b5 (by rw [←HNS.out,←HXS.out];exact hown5) hat5' (by show 1≤k.ds+1;omega);rw [←HNS.out] at hk5;have q17:=b5.cell (set_same z17) hpn3;have q16:=b5.cell (by rw [set_other (by simp)];exact z16:(w3.setCell ⟨p,17,none⟩ (.slice (some ⟨gh,0,none⟩) (nh+1) ch)).cell? ⟨p,16,none⟩=_) hpn3;have r16:=b5.frozen (by rw [set_other (by simp)];exact z16:(w3.setCell ⟨p,17,none⟩ (.slice (some ⟨gh,0,none⟩) (nh+1) ch)).cell? ⟨p,16,none⟩=_) hpn3 (by rw [frozen_set];exact t16);have hpe:((k.pp.length:Int))=(nh:Int):=by omega
 have HK5:=Hid.mk hk5;clear hown5 hgrow5 hat5 hk5 HK3 HR3 z16 z17 t16 t17 b5 hat5';rw [hpe];go_wp2
 all_goals go_ret
 all_goals exact Or.inl ⟨rfl, _, HK5.out.up (by omega), ⟨by show k.ds + 1 - 1 = 0; omega, by show k.dh + 1 - 1 = 0; omega, Nat.le_trans hR3 (Nat.mul_le_mul_right _ (by omega)), HR4.out.1, HR4.out.2.1, by
   show TruP k.on k.bs k.g k.B k.fr ((k.pp ++ [(pz, plnNew (1 + m), [])]).map fun (y : Nat × Pln × List Nat) => y.2.1) (k.hd ++ [0]) (k.sp ++ [1 + (m : Int)])
   rw [List.map_append, show (1 + (m : Int)) = ((1 + m : Nat) : Int) by omega]
   exact Tr_join HR4.out.2.2 (by rw [List.length_map]; omega) (by rw [List.length_map]; omega)⟩⟩
end Go.Proofs.YtpapdkhjdelfcabGreat
namespace Go.Proofs.YtpapdkhjdelfcabGreat
open Go.RowKit
structure KP where
 on:Cfg
 B:List BK
 g:Nat
 pl:List Pln
 fr:List ByteArray
def KI.pu (k:KI):KP:=⟨k.on,k.B,k.g.toNat,k.pp.map (fun y=>y.2.1),k.fr⟩
def tickT (p:Pln):ByteArray:=txt (tickB p.g p.fm p.cg p.cf p.T)
def KP.tick (x:KP) (n:Nat):ByteArray:=match x.pl[n]? with
 |some p=>tickT p
 |none=>⟨#[]⟩
def KP.serve (x:KP) (t:ByteArray):ByteArray:=txt (serveB x.on.formats.toNat x.g x.on x.B (mkF x.on x.B) t.data.toList)
def KP.recv (x:KP) (n:Nat) (t:ByteArray):KP:=match x.pl[n]? with
 |some p=>{x with pl:=x.pl.set n (recvG p t.data.toList)}
 |none=>x
def KP.keep (x:KP) (t:ByteArray):KP:={x with fr:=x.fr++[t]}
structure KTo (k k':KI) (f:Nat):Prop where
 eq:k'={k with M:=k'.M,pp:=k'.pp,vf:=k'.vf,fr:=k'.fr,fb:=k'.fb}
 len:k'.pp.length=k.pp.length
 fb:k'.fb≤k.fb+f
 sl:(∀t∈k.fr,Seald t)→∀t∈k'.fr,Seald t
 tr:k.Tr→k'.Tr
theorem KTo.refl (k:KI) (f:Nat):KTo k k f:=⟨rfl,rfl,Nat.le_add_right _ _,id,id⟩
theorem KTo.trans {k k' k2:KI} {f f':Nat} (h1:KTo k k' f) (h2:KTo k' k2 f'):KTo k k2 (f+f'):=by
 refine ⟨?_,h2.len.trans h1.len,Nat.le_trans h2.fb (by have:=h1.fb;omega),fun h=>h2.sl (h1.sl h),fun h=>h2.tr (h1.tr h)⟩;have e:=h2.eq;rw [h1.eq] at e;exact e
theorem KTo.wide {k k':KI} {f f':Nat} (h:KTo k k' f) (hf:f≤f'):KTo k k' f':=⟨h.eq,h.len,Nat.le_trans h.fb (by omega),h.sl,h.tr⟩
theorem KTo.q {k k':KI} {f:Nat} (h:KTo k k' f):k'.q=k.q:=by have e:=congrArg KI.q h.eq;exact e
theorem KTo.on {k k':KI} {f:Nat} (h:KTo k k' f):k'.on=k.on:=by have e:=congrArg KI.on h.eq;exact e
theorem KTo.g {k k':KI} {f:Nat} (h:KTo k k' f):k'.g=k.g:=by have e:=congrArg KI.g h.eq;exact e
theorem KTo.B {k k':KI} {f:Nat} (h:KTo k k' f):k'.B=k.B:=by have e:=congrArg KI.B h.eq;exact e
theorem KTo.vh {k k':KI} {f:Nat} (h:KTo k k' f):k'.vh=k.vh:=by have e:=congrArg KI.vh h.eq;exact e
theorem KTo.hd {k k':KI} {f:Nat} (h:KTo k k' f):k'.hd=k.hd:=by have e:=congrArg KI.hd h.eq;exact e
theorem KTo.vs {k k':KI} {f:Nat} (h:KTo k k' f):k'.vs=k.vs:=by have e:=congrArg KI.vs h.eq;exact e
theorem KTo.sp {k k':KI} {f:Nat} (h:KTo k k' f):k'.sp=k.sp:=by have e:=congrArg KI.sp h.eq;exact e
theorem KTo.ds {k k':KI} {f:Nat} (h:KTo k k' f):k'.ds=k.ds:=by have e:=congrArg KI.ds h.eq;exact e
theorem KTo.dh {k k':KI} {f:Nat} (h:KTo k k' f):k'.dh=k.dh:=by have e:=congrArg KI.dh h.eq;exact e
theorem KTo.vr {k k':KI} {f:Nat} (h:KTo k k' f):k'.vr=k.vr:=by have e:=congrArg KI.vr h.eq;exact e
theorem KInv.gN {W0:World} {p s:Nat} {k:KI} {w:World} (h:KInv W0 p s k w):(k.g.toNat:Int)=k.g:=Int.toNat_of_nonneg h.gen.1
theorem KInv.svcN {W0:World} {p s:Nat} {k:KI} {w:World} (h:KInv W0 p s k w):SvpAt k.M k.q ⟨k.on,k.B,(k.g.toNat:Int),k.L,k.pp⟩ w:=by
 rw [h.gN];exact h.svc
theorem tickT_size (p:Pln):(tickT p).size≤16777216:=by unfold tickT;rw [txt_size];exact tickB_len _ _ _ _ _
theorem KP.tick_size (x:KP) (n:Nat):(x.tick n).size≤16777216:=by
 unfold KP.tick;split
 ·exact tickT_size _
 ·exact Nat.zero_le _
theorem KP.serve_size (x:KP) (t:ByteArray):(x.serve t).size≤16777216:=by unfold KP.serve;rw [txt_size];exact serveB_len _ _ _ _ _ _
theorem open_seal {b:List UInt8} (hb:0<b.length):openB (b++sumB (crcB b))=some b:=by
 unfold openB;have e:(b++sumB (crcB b)).length - 4=b.length:=by rw [List.length_append,sumB_len];omega
 rw [if_neg (by rw [List.length_append,sumB_len];omega),e,List.take_left',List.drop_left',if_pos rfl]
 ·rfl
 ·rfl
theorem packB_pos {L:List Bool} (h:8≤L.length):0<(packB L).length:=by
 unfold packB;split
 ·exact Nat.zero_lt_succ _
 ·exact absurd h (by decide)
 ·exact Nat.zero_lt_succ _
theorem tick_seald {x:KP} {n:Nat} (hn:n<x.pl.length):Seald (x.tick n):=by
 unfold KP.tick;rw [List.getElem?_eq_getElem hn];exact ⟨_,open_seal (packB_pos (by simp [questB,numBits_len,bytesBits_len]))⟩
theorem frame_seald (a:Ans):∃b,openB (frameA a)=some b:=by
 unfold frameA;split
 ·exact ⟨_,open_seal (packB_pos (by simp [answ1,answ0,numBits_len,bytesBits_len]))⟩
 ·exact ⟨_,open_seal (packB_pos (by simp [answ0,numBits_len,bytesBits_len]))⟩
theorem serve_seald {x:KP} {t:ByteArray} (h:(x.serve t).toList≠[]):Seald (x.serve t):=by
 unfold KP.serve serveB at h ⊢;split
 ·exact frame_seald _
 ·rename_i hq;rw [hq] at h;exact absurd (by kernel_rfl) h
theorem Tr_recv {k:KI} {n:Nat} {t:ByteArray} {M' R':List Nat} {q:Nat} (hn:n<k.pp.length) (hOK:(k.pp[n]).2.1.OK) (hT:k.Tr) (hF:FrU k.on k.bs t):({k with M:=M',pp:=k.pp.set n (q,recvG (k.pp[n]).2.1 t.data.toList,R')}:KI).Tr:=by
 have hp:PlU k.on k.bs (k.pp[n]).2.1:=hT.plT _ (List.mem_map.2 ⟨k.pp[n],List.getElem_mem hn,rfl⟩);obtain ⟨r1,r2,r3⟩:=recv_U hT.hist hp hOK hF;refine ⟨hT.hist,hT.glen,hT.last,hT.frT,fun p hp=>?_,fun m x p hx hp=>?_,fun m x p hx hp=>?_⟩
 ·have hp':p∈(k.pp.set n (q,recvG (k.pp[n]).2.1 t.data.toList,R')).map fun y=>y.2.1:=hp
  rw [List.map_set] at hp';rcases List.mem_or_eq_of_mem_set hp' with hp|hp
  ·exact hT.plT p hp
  ·rw [hp];exact r1
 ·have hp':((k.pp.set n (q,recvG (k.pp[n]).2.1 t.data.toList,R')).map fun y=>y.2.1)[m]?=some p:=hp;rw [List.map_set] at hp';by_cases e:n=m
  ·subst e;rw [List.getElem?_set_self (by simpa using hn)] at hp';have h1:=hT.hdT n x (k.pp[n]).2.1 hx (by rw [List.getElem?_map,List.getElem?_eq_getElem hn];rfl);rw [←Option.some.inj hp'];show x≤((recvG (k.pp[n]).2.1 t.data.toList).g:Int);omega
  ·rw [List.getElem?_set_ne e] at hp';exact hT.hdT m x p hx hp'
 ·have hp':((k.pp.set n (q,recvG (k.pp[n]).2.1 t.data.toList,R')).map fun y=>y.2.1)[m]?=some p:=hp;rw [List.map_set] at hp';by_cases e:n=m
  ·subst e;rw [List.getElem?_set_self (by simpa using hn)] at hp';have h1:=hT.spT n x (k.pp[n]).2.1 hx (by rw [List.getElem?_map,List.getElem?_eq_getElem hn];rfl);rw [←Option.some.inj hp',h1];show ((k.pp[n]).2.1.fm:Int)=((recvG (k.pp[n]).2.1 t.data.toList).fm:Int);rw [r3]
  ·rw [List.getElem?_set_ne e] at hp';exact hT.spT m x p hx hp'
theorem Tr_serve {k:KI} (hT:k.Tr) (t:ByteArray):FrU k.on k.bs (k.pu.serve t):=by
 have hg:=hT.glen;refine serve_U hT.hist (B:=k.B) (g:=k.g.toNat) (by omega) (fun h1=>?_) _;have:=hT.last (by omega);rwa [show k.bs.length=k.g.toNat by omega] at this
theorem Tr_tick (k:KI) (n:Nat):FrU k.on k.bs (k.pu.tick n):=by
 unfold KP.tick;split
 ·exact tick_U _ _ _
 ·exact none_U _ _ (answP_no (by unfold openB;rw [if_pos (by simp)]))
theorem ktick_is {W0:World} {p s:Nat} {k:KI} {w:World} {n:Nat} (h:KInv W0 p s k w) (hn:n<k.pp.length):
  Calls Tryz.prog 29 #[.pointer (some ⟨k.q,0,none⟩),.int .i64 (n:Int)] w fun e w'=>e= .returned (.tuple #[.string (k.pu.tick n),.int .i64 0])∧Bel w w':=by
 refine (tick_v h.svc hn).mono ?_;rintro e w' ⟨rfl,hb⟩
 have e1:k.pu.tick n=txt (tickB (k.svp.ps[n]'hn).2.1.g (k.svp.ps[n]'hn).2.1.fm (k.svp.ps[n]'hn).2.1.cg (k.svp.ps[n]'hn).2.1.cf (k.svp.ps[n]'hn).2.1.T):=by
  unfold KP.tick KI.pu;simp only [List.getElem?_map,List.getElem?_eq_getElem hn,Option.map_some];rfl
 exact ⟨by rw [e1],hb⟩
theorem kserve_is {W0:World} {p s:Nat} {k:KI} {w:World} (h:KInv W0 p s k w) (hs:s≤65600) (t:ByteArray) (ht:t.size≤1099511627776):
  Calls Tryz.prog 30 #[.pointer (some ⟨k.q,0,none⟩),.string t] w fun e w'=>e= .returned (.string (k.pu.serve t))∧Bel w w':=by
 refine (serve_v k.M k.q k.on k.B k.g.toNat t w h.svcN (mkF_len _ _ h.onok h.good.1) h.onok h.good.1 (by have:=h.gen;omega) ht).mono ?_;rintro e w' ⟨rfl,hb⟩;exact ⟨rfl,hb⟩
def RRec (W0:World) (p s:Nat) (k:KI) (x:KP) (e:Ending) (w':World):Prop:=e= .returned (.int .i64 0)∧∃k',KInv W0 p s k' w'∧KTo k k' 0∧k'.pu=x
theorem krecv_is {W0:World} {p s:Nat} {k:KI} {w:World} {n:Nat} (h:KInv W0 p s k w) (hn:n<k.pp.length) (t:ByteArray) (ht:t.size≤1099511627776) (hF:k.Tr→FrU k.on k.bs t):
  Calls Tryz.prog 31 #[.pointer (some ⟨k.q,0,none⟩),.int .i64 (n:Int),.string t] w (RRec W0 p s k (k.pu.recv n t)):=by
 refine (receive_v h.svc (fun j hj=>(h.lt j hj).2) hn t ht).mono ?_;intro e w' hr;obtain ⟨R',hK⟩:=h.plane hn hr;refine ⟨hr.1,_,hK,⟨rfl,by simp,Nat.le_refl _,id,fun hT=>Tr_recv hn (h.svc.pl hn).2 hT (hF hT)⟩,?_⟩;unfold KP.recv KI.pu;simp only [List.getElem?_map,List.getElem?_eq_getElem hn,Option.map_some,List.map_set];rfl
def RRes (W0:World) (p s:Nat) (k:KI) (n:Nat) (e:Ending) (w':World):Prop:=e= .returned (.int .i64 0)∧∃M' pp',KInv W0 p s {k with M:=M',pp:=pp'} w'∧pp'.length=k.pp.length∧(k.Tr→TruP k.on k.bs k.g k.B k.fr (pp'.map fun y=>y.2.1) (k.hd.set n 0) k.sp)
theorem krestart_is {W0:World} {p s:Nat} {k:KI} {w:World} {n:Nat} (h:KInv W0 p s k w) (hn:n<k.pp.length):
  Calls Tryz.prog 78 #[.pointer (some ⟨k.q,0,none⟩),.int .i64 (n:Int)] w (RRes W0 p s k n):=by
 refine (restart_v h.svc (fun j hj=>(h.lt j hj).2) hn).mono ?_;intro e w' hr;obtain ⟨R',hK⟩:=h.plane hn hr;refine ⟨hr.1,_,_,hK,by simp,fun hT=>⟨hT.hist,hT.glen,hT.last,hT.frT,fun p hp=>?_,fun m x p hx hp=>?_,fun m x p hx hp=>?_⟩⟩
 ·rw [List.map_set] at hp;rcases List.mem_or_eq_of_mem_set hp with hp|hp
  ·exact hT.plT p hp
  ·rw [hp];exact new_U _ _ _
 ·rw [List.map_set] at hp;by_cases e:n=m
  ·subst e;have hl:=(List.getElem?_eq_some_iff.1 hx).1;rw [List.getElem?_set_self (by simpa using hl)] at hx;rw [←Option.some.inj hx];omega
  ·rw [List.getElem?_set_ne e] at hx hp;exact hT.hdT m x p hx hp
 ·rw [List.map_set] at hp;by_cases e:n=m
  ·subst e;rw [List.getElem?_set_self (by simpa using hn)] at hp;have h1:=hT.spT n x (k.pp[n]).2.1 hx (by rw [List.getElem?_map,List.getElem?_eq_getElem hn];rfl);rw [←Option.some.inj hp,h1];rfl
  ·rw [List.getElem?_set_ne e] at hp;exact hT.spT m x p hx hp
def RTo (W0:World) (p s:Nat) (k:KI) (f:Nat) (x:KP) (e:Ending) (w':World):Prop:=e= .returned (.tuple #[])∧∃k',KInv W0 p s k' w'∧KTo k k' f∧k'.pu=x
theorem kkeep_is {W0:World} {p s:Nat} {k:KI} {w:World} (h:KInv W0 p s k w) (S:ByteArray) (hS:S.size≤1099511627776) (hfb:k.fb≤1000000000000) (hsl:Seald S) (hF:k.Tr→FrU k.on k.bs S):
  Calls Tryz.prog 135 #[.pointer (some ⟨p,0,none⟩),.string S] w (RTo W0 p s k 1 (k.pu.keep S)):=by
 obtain ⟨i0,hi,hz0,hz1,hz2⟩:=info_parts Tryz.infoStr;have HI:=Hid.mk h;have HR:=Hid.mk h.frames;have c18:=h.at_.1 18 _ rfl;have f18:=h.at_.2 18 (by rw [wl_len];decide);have hplt:=World.block_lt_of_cell? w _ c18;have hfl:=h.flen;have hb0:=h.bel.size;have hpn:p∉gl k.vf:=fun e=>h.apart.2.2.2.1 p e rfl
 have hkm:(k.fr.map Value.string).length=k.fr.length:=List.length_map _;clear h;obtain ⟨vf,hvf⟩:∃vf,vf=k.vf:=⟨_,rfl⟩;obtain ⟨n,hn⟩:∃n,n=k.fr.length:=⟨_,rfl⟩;obtain ⟨xs,hxs⟩:∃xs,xs=k.fr.map Value.string:=⟨_,rfl⟩;rw [←hvf] at HR c18 hpn;rw [←hn] at HR hfl hkm;rw [←hxs] at HR hkm;have HV:=Hid.mk hvf;have HN:=Hid.mk hn;have HX:=Hid.mk hxs;clear hvf hn hxs;go_enter Tryz.func135,Tryz.ntmps135;go_wp2_with (first|(at_builtin;refine wpList_append_lies _ rfl _ _ 40 rfl W0.heap.size 9 i0 (.string ByteArray.empty) 1 16 Tryz.underlying40 hi hz0 hz1 hz2 rfl (by decide) _ n xs rfl ?p1 ⟨w.heap.size,0,none⟩ 1 1 [.string S] rfl rfl ?d1 ?d2 (by decide) ?d3 ?d4 ?d5 _ rfl ?_))
 case p1=>exact World.ownsRow.alloc HR.out _
 try (case d1=>exact one_new _ _ _ _ (by simp))
 case d2=>first|rfl|(intro u hu;simp at hu;subst hu;rfl)
 case d3=>unfold maxLen;omega
 case d4=>omega
 case d5=>first|omega|(simp;omega)
 intro g cap w3 hown3 hgrow3 hat3 hlt3;have b3:But (gl vf) w w3:=(But.of_bel (Bel.step_alloc (Bel.refl w) _)).trans (grown_but hgrow3);have x18:=b3.cell c18 hpn;have y18:=b3.frozen c18 hpn f18;have HO:=Hid.mk hown3;have hg:Hid (vf.ownBlock=some g∨w.heap.size≤g):=hat3.imp id (fun e=>by first|omega|(rw [e];simp));clear hown3 hgrow3 hat3;go_wp2;go_end0;have hvf:=HV.out;have hn:=HN.out;have hxs:=HX.out;subst hvf hn hxs;exact ⟨rfl,_,HI.out.frame b3 HO.out hg.out hS,⟨rfl,rfl,Nat.le_refl _,fun h t ht=>(List.mem_append.1 ht).elim (h t) (fun e=>by rw [List.mem_singleton.1 e];exact hsl),fun hT=>⟨hT.hist,hT.glen,hT.last,fun t ht=>(List.mem_append.1 ht).elim (hT.frT t) (fun e=>by rw [List.mem_singleton.1 e];exact hF hT),hT.plT,hT.hdT,hT.spT⟩⟩,rfl⟩
end Go.Proofs.YtpapdkhjdelfcabGreat
