import Derived.Test.YtpapdkhjdelfcabGreatSAF
import Derived.Test.YtpapdkhjdelfcabGreatSAD
import Derived.Test.YtpapdkhjdelfcabGreatSAE
import Derived.Deep.RegionHeld3
set_option maxRecDepth 100000
set_option maxHeartbeats 4000000
namespace Go.Proofs.YtpapdkhjdelfcabGreat
open Go.RowKit
def fB:List BK:=[(nB,1)]
def fE:List EI:=[(0,0),(0,0),(0,0),(0,0),(0,0),(0,0),(0,0)]
def cfgF:Cfg:={cfgA with formats:=0}
theorem fetch_mag:maglevF cfgA fB=[0,0,0,0,0,0,0]:=by decide+kernel
theorem fetch_mk:mkF cfgA fB=fE:=by
 rw [mkF,if_neg (by decide),if_pos (show cfgA.alg=1 from rfl),fetch_mag];rfl
theorem fB_good:Good fB:=by have:=Good.nil.add nB 1;rwa [alive_add1.2] at this
def fI:List UInt8:=imageB 2 1 cfgA fB fE
def fA:Ans:=(1,1,2,1,0,fI)
theorem fetch_1:answP (serveB 3 1 cfgA fB fE (tickB 0 3 0 0 []))=some fA:=by kernel_rfl
theorem fetch_2:answP (serveB 3 1 cfgA fB fE (tickB 1 3 0 0 []))=some (0,0,0,0,0,[]):=by kernel_rfl
def fBits:List Bool:=bytesBits (packB (bodyB 2 1 cfgA fB fE))
theorem fetch_open:openB fI=some (packB (bodyB 2 1 cfgA fB fE)):=open_seal (packB_pos (by decide+kernel))
def rest1:List Bool:=fBits.drop 16
def rest2:List Bool:=fBits.drop (16+208)
def rest3:List Bool:=((bksX rest2).map Prod.snd).getD []
def rest4:List Bool:=rest3.drop 16
def rest5:List Bool:=((manyP (oneEn (wpF 1) (woF 2 1 1)) 7 rest4).map Prod.snd).getD []
theorem st1:(some fBits).bind (textP 2)=(some rest1).map (Prod.mk [67,72]):=by kernel_rfl
theorem st2:(some rest1).bind headX=(some rest2).map (Prod.mk (2,1,cfgF)):=by kernel_rfl
theorem st3:(some rest2).bind bksX=(some rest3).map (Prod.mk fB):=by kernel_rfl
theorem st4:(some rest3).bind (numP 16)=(some rest4).map (Prod.mk 7):=by kernel_rfl
theorem st5:(some rest4).bind (manyP (oneEn (wpF cfgF.alg) (woF 2 cfgF.alg fB.length)) 7)=(some rest5).map (Prod.mk fE):=by kernel_rfl
theorem cfgF_tok:cfgF.TOK:=((Cfg.ok_iff cfgA).1 cfgA_ok).1
theorem fetch_right:RightG 1 cfgF fB fE:=by
 refine ⟨⟨by decide,by decide⟩,by decide+kernel,fun e he=>⟨0,by decide,?_,by decide⟩,fun h=>absurd h (by decide)⟩;simp [fE] at he;rw [he];rfl
theorem fetch_img:imageP fI=some (2,1,cfgF,fB,fE):=by
 unfold imageP;rw [fetch_open,Option.bind_some,show bytesBits (packB (bodyB 2 1 cfgA fB fE))=fBits from rfl,imgT_step st1,if_pos rfl,imgH_step st2,if_pos ⟨⟨by decide,by decide⟩,cfgF_tok⟩,imgB_step st3,if_pos fB_good,imgN_step st4,imgE_step st5];unfold imgEnd;rw [if_pos ⟨by kernel_rfl,fetch_right⟩]
def fP:Pln:=⟨3,1,cfgF,fB,fE,0,0,0,[],false⟩
theorem fetch_take:takeG (plnNew 3) fA=fP:=by
 unfold takeG;have h1:newT (plnNew 3).cg (plnNew 3).cf (plnNew 3).cp (plnNew 3).T fA=[(0,fI)]:=by kernel_rfl
 have h2:com1 (plnNew 3).cg (plnNew 3).cf (plnNew 3).cp (plnNew 3).T fA=(1,2,1,[]):=by kernel_rfl
 have h3:thB [(0,fI)]=fI:=by simp [thB]
 have h4:useP (plnNew 3).fm (plnNew 3).g (plnNew 3).cg (plnNew 3).cf (plnNew 3).cp (plnNew 3).T fA:=⟨by kernel_rfl,by rw [h2];rfl,by rw [h2];rfl⟩;rw [if_neg (by decide),if_pos h4,h1,h2,if_pos (show [((0:Nat),fI)].length=(1,2,1,([]:List TP)).2.2.1 from rfl),h3,fetch_img];exact if_pos ⟨rfl,rfl⟩
theorem fetch_r1:recvG (plnNew 3) (serveB 3 1 cfgA fB fE (tickB 0 3 0 0 []))=fP:=by
 unfold recvG;rw [fetch_1];exact fetch_take
theorem fetch_r2:recvG fP (serveB 3 1 cfgA fB fE (tickB 1 3 0 0 []))=fP:=by
 unfold recvG;rw [fetch_2];show takeG fP _=_;unfold takeG;rw [if_pos (by decide)];rfl
theorem fetch_own:plOwnF 1 cfgF fB fE ⟨#[107]⟩=(nB,0):=by decide+kernel
end Go.Proofs.YtpapdkhjdelfcabGreat

namespace Go.Proofs.YtpapdkhjdelfcabGreat
open Go.RowKit
def wl0 (part:Int) (c:Cfg) (r:List Value):List Value:=[.int .i64 part,.int .i64 c.alg,.int .i64 c.slots,.int .i64 c.points,.int .i64 c.probes,.string c.key,.int .i64 c.formats]++r
theorem WAt.len {p:Nat} {L:List Value} {w:World} (h:WAt p L w) {o:Nat} (ho:o<L.length):∃u,w.cell? ⟨p,o,none⟩=some u:=⟨L[o],h.1 o _ (by simp [ho])⟩
theorem SvcAt.svp {M:List Nat} {q:Nat} {c:Cfg} {B:List BK} {g:Int} {w:World} (h:SvcAt (.slice none 0 0) M q c B g w):SvpAt M q ⟨c,B,g,[],[]⟩ w:=
 ⟨_,h,World.ownsRow_nil _ _ _ _,rfl,by simp,by simp,by simp [Svp.own,blk],by simp⟩
theorem tr_begin {c:Cfg} (hc:c.OK):TruP c [] 0 [] [] [] [] []:=⟨⟨hc,by simp,fun B hB=>(by cases hB)⟩,rfl,fun h=>absurd h (by decide),fun t ht=>(by cases ht),fun y hy=>(by cases hy),fun n x y h _=>(by simp at h),fun n x y h _=>(by simp at h)⟩
def RBegin (W0:World) (p s:Nat) (e:Ending) (w':World):Prop:=e= .returned (.bool true)∧∃k,KInv W0 p s k w'∧k.Rdy s
theorem kbegin_is (W0:World) (p s:Nat) (part:Int) (c:Cfg) (r7 r8 r9 r10 r11 r12 r13 r14 r15 r16 r17 r18 r19:Value) (w:World) (hW:WAt p (wl0 part c [r7,r8,r9,r10,r11,r12,r13,r14,r15,r16,r17,r18,r19]) w) (hc:c.OK) (hb:Bel W0 w) (hp:W0.heap.size≤p):
  Calls Tryz.prog 35 #[.pointer (some ⟨p,0,none⟩)] w (RBegin W0 p s):=by
 have hnw:=new_is c w hc;have HC:=Hid.mk hc;have HW:=Hid.mk hW;have hplt:p<w.heap.size:=hW.lt (by simp [wl0]);have k1:=hW.1 1 _ rfl;have k2:=hW.1 2 _ rfl;have k3:=hW.1 3 _ rfl;have k4:=hW.1 4 _ rfl;have k5:=hW.1 5 _ rfl;have k6:=hW.1 6 _ rfl;have hcs:Hid (∀o u,7≤o→(wl0 part c [r7,r8,r9,r10,r11,r12,r13,r14,r15,r16,r17,r18,r19])[o]?=some u→w.cell? ⟨p,o,none⟩=some u∧w.frozen? ⟨p,o,none⟩=false):=fun o u _ h=>⟨hW.1 o u h,hW.2 o (List.getElem?_eq_some_iff.1 h).1⟩
 clear hW hc;obtain ⟨c7,f7⟩:=hcs.out 7 _ (by omega) rfl;obtain ⟨c8,f8⟩:=hcs.out 8 _ (by omega) rfl;obtain ⟨c9,f9⟩:=hcs.out 9 _ (by omega) rfl;obtain ⟨c10,f10⟩:=hcs.out 10 _ (by omega) rfl;obtain ⟨c11,f11⟩:=hcs.out 11 _ (by omega) rfl;obtain ⟨c12,f12⟩:=hcs.out 12 _ (by omega) rfl;obtain ⟨c13,f13⟩:=hcs.out 13 _ (by omega) rfl;obtain ⟨c14,f14⟩:=hcs.out 14 _ (by omega) rfl;obtain ⟨c15,f15⟩:=hcs.out 15 _ (by omega) rfl;obtain ⟨c16,f16⟩:=hcs.out 16 _ (by omega) rfl;obtain ⟨c17,f17⟩:=hcs.out 17 _ (by omega) rfl;obtain ⟨c18,f18⟩:=hcs.out 18 _ (by omega) rfl;obtain ⟨c19,f19⟩:=hcs.out 19 _ (by omega) rfl;clear hcs;go_enter Tryz.func35,Tryz.ntmps35;simp only [Cfg.cells] at hnw;go_wp2_with fail;refine hnw.mono ?_;rintro e w1 ⟨q,rfl,hb1,hq1,hq2,hS⟩;have l1:=hb1.cell k1;have l2:=hb1.cell k2;have l3:=hb1.cell k3;have l4:=hb1.cell k4;have l5:=hb1.cell k5;have l6:=hb1.cell k6;have d7:=hb1.cell c7;have d8:=hb1.cell c8;have d9:=hb1.cell c9;have d10:=hb1.cell c10;have d11:=hb1.cell c11;have d12:=hb1.cell c12;have d13:=hb1.cell c13;have d14:=hb1.cell c14;have d15:=hb1.cell c15;have d16:=hb1.cell c16;have d17:=hb1.cell c17;have d18:=hb1.cell c18;have d19:=hb1.cell c19;have e7:=hb1.frozen c7 f7;have e8:=hb1.frozen c8 f8;have e9:=hb1.frozen c9 f9;have e10:=hb1.frozen c10 f10;have e11:=hb1.frozen c11 f11;have e12:=hb1.frozen c12 f12;have e13:=hb1.frozen c13 f13;have e14:=hb1.frozen c14 f14;have e15:=hb1.frozen c15 f15;have e16:=hb1.frozen c16 f16;have e17:=hb1.frozen c17 f17;have e18:=hb1.frozen c18 f18;have e19:=hb1.frozen c19 f19;have HS:=Hid.mk hS;have hplt1:p<w1.heap.size:=Nat.lt_of_lt_of_le hplt hb1.size;clear c7 c8 c9 c10 c11 c12 c13 c14 c15 c16 c17 c18 c19 f7 f8 f9 f10 f11 f12 f13 f14 f15 f16 f17 f18 f19 k1 k2 k3 k4 k5 k6 hS hnw;go_wp2;go_ret;have hW1:=HW.out.later hb1;obtain ⟨w2,hw2⟩:∃w2,w2=(((((((((((((w1.setCell ⟨p,7,none⟩ (.pointer (some ⟨q,0,none⟩))).setCell ⟨p,8,none⟩ (.int .i64 c.alg)).setCell ⟨p,9,none⟩ (.int .i64 c.slots)).setCell ⟨p,10,none⟩ (.int .i64 c.points)).setCell ⟨p,11,none⟩ (.int .i64 c.probes)).setCell ⟨p,12,none⟩ (.string c.key)).setCell ⟨p,13,none⟩ (.int .i64 c.formats)).setCell ⟨p,14,none⟩ (.slice none 0 0)).setCell ⟨p,15,none⟩ (.slice (some ⟨w1.heap.size,0,none⟩) 1 1)).setCell ⟨p,16,none⟩ (.slice none 0 0)).setCell ⟨p,17,none⟩ (.slice none 0 0)).setCell ⟨p,18,none⟩ (.slice none 0 0)).setCell ⟨p,19,none⟩ (.string {data:=#[]})):=⟨_,rfl⟩;have hW2:=(((((((((((((hW1.set 7 (.pointer (some ⟨q,0,none⟩))).set 8 (.int .i64 c.alg)).set 9 (.int .i64 c.slots)).set 10 (.int .i64 c.points)).set 11 (.int .i64 c.probes)).set 12 (.string c.key)).set 13 (.int .i64 c.formats)).set 14 (.slice none 0 0)).set 15 (.slice (some ⟨w1.heap.size,0,none⟩) 1 1)).set 16 (.slice none 0 0)).set 17 (.slice none 0 0)).set 18 (.slice none 0 0)).set 19 (.string {data:=#[]}))
 have b2:But [p] w1 w2:=by
  rw [hw2];exact ((((((((((((((But.refl [p] w1).set (p:=⟨p,7,none⟩) (by simp) _).set (p:=⟨p,8,none⟩) (by simp) _).set (p:=⟨p,9,none⟩) (by simp) _).set (p:=⟨p,10,none⟩) (by simp) _).set (p:=⟨p,11,none⟩) (by simp) _).set (p:=⟨p,12,none⟩) (by simp) _).set (p:=⟨p,13,none⟩) (by simp) _).set (p:=⟨p,14,none⟩) (by simp) _).set (p:=⟨p,15,none⟩) (by simp) _).set (p:=⟨p,16,none⟩) (by simp) _).set (p:=⟨p,17,none⟩) (by simp) _).set (p:=⟨p,18,none⟩) (by simp) _).set (p:=⟨p,19,none⟩) (by simp) _)
 rw [←hw2] at hW2 ⊢;have hs2:w2.heap.size=w1.heap.size:=by rw [hw2];simp [World.setCell]
 have hown:(w2.alloc (.cells #[.slice none 0 0] 40)).ownsRow W0.heap.size 40 1 (.slice (some ⟨w1.heap.size,0,none⟩) 1 1) 1 [.slice none 0 0]:=by
  rw [←hs2];exact World.ownsRow_lit w2 #[.slice none 0 0] 1 (by have:=(hb.trans hb1).size;omega) (by decide) rfl
 have b4:But [p] w1 (w2.alloc (.cells #[.slice none 0 0] 40)):=b2.alloc _;have hW4:=hW2.later ((Bel.refl w2).step_alloc (.cells #[.slice none 0 0] 40));have hs4:(w2.alloc (.cells #[.slice none 0 0] 40)).heap.size=w1.heap.size+1:=by simp [hs2]
 have hqp:p≠q:=by omega
 have hsf:=b4.size
 have hM:∀j∈[w1.heap.size,q,p],W0.heap.size≤j∧j<(w2.alloc (.cells #[.slice none 0 0] 40)).heap.size:=by
  intro j hj;have h0:=(hb.trans hb1).size;have h1:=hb.size;simp only [List.mem_cons,List.not_mem_nil,or_false] at hj;rcases hj with rfl|rfl|rfl
  ·exact ⟨h0,by rw [hs4];omega⟩
  ·exact ⟨by omega,by rw [hs4];omega⟩
  ·exact ⟨hp,by rw [hs4];omega⟩
 have hS4:SvpAt [w1.heap.size,q,p] q ⟨c,[],0,[],[]⟩ (w2.alloc (.cells #[.slice none 0 0] 40)):=(SvcAt.svp (HS.out [w1.heap.size,q,p] (by simp))).but b4 (by simpa [Svp.own,blk] using hqp) (by simp);have hz:=fun (e:TypeId) (sz:Nat)=>World.ownsRow_nil (w2.alloc (.cells #[.slice none 0 0] 40)) W0.heap.size e sz
 refine ⟨rfl,⟨[w1.heap.size,q,p],q,c,c,[],0,.slice none 0 0,.slice (some ⟨w1.heap.size,0,none⟩) 1 1,.slice none 0 0,.slice none 0 0,.slice none 0 0,ByteArray.empty,part,[],[],[],[],[],[],0,0,0,[]⟩,⟨hW4,?_,?_,hM,But.belTo (hb.trans hb1) b4 (by intro j hj;simp at hj;subst hj;exact hp),hS4,Or.inl ⟨rfl,rfl,rfl⟩,Good.nil,HC.out,HC.out,⟨by simp,by simp,fun _=>rfl⟩,hown,rfl,⟨rfl,fun i v X hv hX=>by simp at hv⟩,hz _ _,hz _ _,rfl,rfl,fun x hx=>by simp at hx,hz _ _,Nat.le_refl _,fun t ht=>by simp at ht,Nat.zero_le _⟩,rfl,rfl,Nat.zero_le _,fun t ht=>by simp at ht,Or.inl rfl,tr_begin HC.out⟩
 ·show (p::(gl (.slice (some ⟨w1.heap.size,0,none⟩) 1 1)++gl (.slice none 0 0)++gl (.slice none 0 0)++gl (.slice none 0 0)++(Svp.mk c [] 0 [] []).own q)).Nodup;simp [gl,Value.ownBlock,Svp.own,blk];omega
 ·intro j hj;have:j∈p::(gl (.slice (some ⟨w1.heap.size,0,none⟩) 1 1)++gl (.slice none 0 0)++gl (.slice none 0 0)++gl (.slice none 0 0)++(Svp.mk c [] 0 [] []).own q):=hj;simp [gl,Value.ownBlock,Svp.own,blk] at this;simp;omega
end Go.Proofs.YtpapdkhjdelfcabGreat

namespace Go.Proofs.YtpapdkhjdelfcabGreat
open Go.RowKit
def RNumK (W0:World) (p s:Nat) (e:Ending) (w':World):Prop:=e= .returned (.tuple #[])∧∃k,KInv W0 p s k w'∧k.Rdy s
def primesL:List Nat:=[3,5,7,11,13,17,23,31,43,61,101,151,211]
theorem primesL_ok (j:Nat) (h:j<13):3≤primesL.getD j 0∧primesL.getD j 0≤211∧∀d:Nat,2≤d→(d:Int)<(primesL.getD j 0:Nat)→((primesL.getD j 0:Nat):Int) % d≠0:=by
 have key:∀j,j<13→3≤primesL.getD j 0∧primesL.getD j 0≤211∧∀d,d<211→2≤d→d<primesL.getD j 0→primesL.getD j 0 % d≠0:=by decide+kernel
 obtain ⟨h1,h2,h3⟩:=key j h;refine ⟨h1,h2,fun d hd1 hd2=>?_⟩;have:=h3 d (by omega) hd1 (by omega);omega
theorem primes_is (w:World):Calls Tryz.prog 128 #[] w fun e w'=>e= .returned (.slice (some ⟨w.heap.size,0,none⟩) 13 13)∧w'=w.alloc (.cells #[.int .i64 3,.int .i64 5,.int .i64 7,.int .i64 11,.int .i64 13,.int .i64 17,.int .i64 23,.int .i64 31,.int .i64 43,.int .i64 61,.int .i64 101,.int .i64 151,.int .i64 211] 3):=by
 go_enter Tryz.func128,Tryz.ntmps128;go_wp2;go_ret;exact ⟨rfl,rfl⟩
theorem primes_cell (w:World) (j:Nat) (h:j<13):(w.alloc (.cells #[.int .i64 3,.int .i64 5,.int .i64 7,.int .i64 11,.int .i64 13,.int .i64 17,.int .i64 23,.int .i64 31,.int .i64 43,.int .i64 61,.int .i64 101,.int .i64 151,.int .i64 211] 3)).cell? ⟨w.heap.size,j,none⟩=some (.int .i64 (primesL.getD j 0:Nat)):=by
 rcases (show j=0∨j=1∨j=2∨j=3∨j=4∨j=5∨j=6∨j=7∨j=8∨j=9∨j=10∨j=11∨j=12 by omega) with rfl|rfl|rfl|rfl|rfl|rfl|rfl|rfl|rfl|rfl|rfl|rfl|rfl <;>simp [primesL]
theorem number_is (W0:World) (p s:Nat) (k:KI) (kk v:Int) (w:World) (h:KInv W0 p s k w) (hR:k.Rdy s) (hk0:0≤kk) (hk4:kk<5) (hv:I64 v):
  Calls Tryz.prog 71 #[.pointer (some ⟨p,0,none⟩),.int .i64 kk,.int .i64 v] w (RNumK W0 p s):=by
 have hW:=h.at_;have hc:=h.cok;have HI:=Hid.mk h;obtain ⟨hc1,hc2,hc3,hc4,hc5,hc6,hc7,hc8,hc9,hc10,hc11,hc12⟩:=hc;rcases (show kk=0∨kk=1∨kk=2∨kk=3∨kk=4 by omega) with rfl|rfl|rfl|rfl|rfl
 ·have hpk:=fun wx=>pick_is v 4 wx hv (by omega) (by omega)
  obtain ⟨hx1,hx2⟩:=pickF_range v 4 (by omega);generalize pickF v 4=x at *;have c0:=hW.1 1 _ rfl;have f0:=hW.2 1 (by rw [wl_len];decide);have hok:Hid (Cfg.OK {k.c with alg:=1+x}):=⟨(by simp only;omega),(by simp only;omega),hc3,hc4,hc5,hc6,hc7,hc8,hc9,hc10,hc11,hc12⟩;have HW:=Hid.mk (hW.set 1 (.int .i64 (1+x)));clear h hW;go_enter Tryz.func71,Tryz.ntmps71;go_wp2_with fail;refine (hpk _).mono ?_;rintro e w' ⟨rfl,rfl⟩;go_wp2;go_end0;exact ⟨rfl,_,HI.out.setW (c':={k.c with alg:=1+x}) (part':=k.part) ((But.refl _ _).set (by simp) _) HW.out hok.out HI.out.isz,hR⟩
 ·have hpk:=fun wx=>pick_is v 13 wx hv (by omega) (by omega)
  obtain ⟨hx1,hx2⟩:=pickF_range v 13 (by omega);generalize pickF v 13=x at *;obtain ⟨j,rfl⟩:∃j:Nat,x=(j:Int):=⟨x.toNat,by omega⟩;obtain ⟨q1,q2,q3⟩:=primesL_ok j (by omega);have hpc:=fun wx=>primes_cell wx j (by omega)
  generalize primesL.getD j 0=pr at *;have c0:=hW.1 2 _ rfl;have f0:=hW.2 2 (by rw [wl_len];decide);have hplt:=hW.lt (by rw [wl_len];decide);have hok:Hid (Cfg.OK {k.c with slots:=(pr:Int)}):=⟨hc1,hc2,by simp only;omega,by simp only;omega,q3,hc6,hc7,hc8,hc9,hc10,hc11,hc12⟩;clear h hW q3;go_enter Tryz.func71,Tryz.ntmps71;go_wp2_with fail;refine (primes_is _).mono ?_;rintro e w' ⟨rfl,rfl⟩;have hpc:=hpc w;obtain ⟨wa,hwa⟩:∃wa,wa=w.alloc (.cells #[.int .i64 3,.int .i64 5,.int .i64 7,.int .i64 11,.int .i64 13,.int .i64 17,.int .i64 23,.int .i64 31,.int .i64 43,.int .i64 61,.int .i64 101,.int .i64 151,.int .i64 211] 3):=⟨_,rfl⟩;have hba:Bel w wa:=by rw [hwa];exact (Bel.refl w).step_alloc _
  rw [←hwa] at hpc ⊢;have c0':=hba.cell c0;have f0':=hba.frozen c0 f0;have HW:=Hid.mk (((HI.out.at_).later hba).set 2 (.int .i64 (pr:Int)));generalize w.heap.size=pz at *;clear hwa c0 f0;go_wp2_with fail;refine (hpk _).mono ?_;rintro e w' ⟨rfl,rfl⟩;go_wp2;go_end0;exact ⟨rfl,_,(HI.out.later hba).setW (c':={k.c with slots:=(pr:Int)}) (part':=k.part) ((But.refl _ _).set (by simp) _) HW.out hok.out HI.out.isz,hR⟩
 ·have hpk:=fun wx=>pick_is v 3 wx hv (by omega) (by omega)
  obtain ⟨hx1,hx2⟩:=pickF_range v 3 (by omega);generalize pickF v 3=x at *;have c0:=hW.1 3 _ rfl;have f0:=hW.2 3 (by rw [wl_len];decide);have hok:Hid (Cfg.OK {k.c with points:=1+x}):=⟨hc1,hc2,hc3,hc4,hc5,(by simp only;omega),(by simp only;omega),hc8,hc9,hc10,hc11,hc12⟩;have HW:=Hid.mk (hW.set 3 (.int .i64 (1+x)));clear h hW;go_enter Tryz.func71,Tryz.ntmps71;go_wp2_with fail;refine (hpk _).mono ?_;rintro e w' ⟨rfl,rfl⟩;go_wp2;go_end0;exact ⟨rfl,_,HI.out.setW (c':={k.c with points:=1+x}) (part':=k.part) ((But.refl _ _).set (by simp) _) HW.out hok.out HI.out.isz,hR⟩
 ·have hpk:=fun wx=>pick_is v 5 wx hv (by omega) (by omega)
  obtain ⟨hx1,hx2⟩:=pickF_range v 5 (by omega);generalize pickF v 5=x at *;have c0:=hW.1 4 _ rfl;have f0:=hW.2 4 (by rw [wl_len];decide);have hok:Hid (Cfg.OK {k.c with probes:=1+x}):=⟨hc1,hc2,hc3,hc4,hc5,hc6,hc7,(by simp only;omega),(by simp only;omega),hc10,hc11,hc12⟩;have HW:=Hid.mk (hW.set 4 (.int .i64 (1+x)));clear h hW;go_enter Tryz.func71,Tryz.ntmps71;go_wp2_with fail;refine (hpk _).mono ?_;rintro e w' ⟨rfl,rfl⟩;go_wp2;go_end0;exact ⟨rfl,_,HI.out.setW (c':={k.c with probes:=1+x}) (part':=k.part) ((But.refl _ _).set (by simp) _) HW.out hok.out HI.out.isz,hR⟩
 ·have hpk:=fun wx=>pick_is v 3 wx hv (by omega) (by omega)
  obtain ⟨hx1,hx2⟩:=pickF_range v 3 (by omega);generalize pickF v 3=x at *;have c0:=hW.1 6 _ rfl;have f0:=hW.2 6 (by rw [wl_len];decide);have hok:Hid (Cfg.OK {k.c with formats:=1+x}):=⟨hc1,hc2,hc3,hc4,hc5,hc6,hc7,hc8,hc9,hc10,(by simp only;omega),(by simp only;omega)⟩;have HW:=Hid.mk (hW.set 6 (.int .i64 (1+x)));clear h hW;go_enter Tryz.func71,Tryz.ntmps71;go_wp2_with fail;refine (hpk _).mono ?_;rintro e w' ⟨rfl,rfl⟩;go_wp2;go_end0;exact ⟨rfl,_,HI.out.setW (c':={k.c with formats:=1+x}) (part':=k.part) ((But.refl _ _).set (by simp) _) HW.out hok.out HI.out.isz,hR⟩
theorem texts_open' {w:World} {v:Value} {L:List ByteArray} (h:RowAt w v L.length (L.map Value.string)):∃ao cap,v= .slice ao L.length cap∧∀j (hj:j<L.length),∃g,ao=some ⟨g,0,none⟩∧w.cell? ⟨g,j,none⟩=some (.string L[j]):=by
 rcases h with ⟨h1,h2,_⟩|⟨g,cap,hv,hn,hg,hc⟩
 ·exact ⟨none,0,by rw [h1,h2],fun j hj=>by omega⟩
 ·exact ⟨_,cap,hv,fun j hj=>⟨g,rfl,hc j _ (by simp [hj])⟩⟩
theorem alike_is (X Y:List ByteArray) (vx vy:Value) (w:World) (hx:RowAt w vx X.length (X.map Value.string)) (hy:RowAt w vy Y.length (Y.map Value.string)) (hl:X.length≤65536) (hl2:Y.length≤65536):
  Calls Tryz.prog 133 #[vx,vy] w (RBool w (IsB (X=Y))):=by
 obtain ⟨ax,cx,rfl,hcx⟩:=texts_open' hx;obtain ⟨ay,cy,rfl,hcy⟩:=texts_open' hy;obtain ⟨Pr,hPr⟩:∃Pr:Prop,Pr=(X=Y):=⟨_,rfl⟩;rw [←hPr];have HPr:=Hid.mk hPr;clear hPr hx hy;by_cases hlen:X.length=Y.length
 rotate_left
 ·have hlb:((X.length:Int) !=(Y.length:Int))=true:=by rw [bne_iff_ne];omega
  clear hcx hcy;go_enter Tryz.func133,Tryz.ntmps133;go_wp2;go_ret;exact ⟨_,rfl,Bel.refl _,⟨fun h=>(by cases h),fun h=>(by rw [HPr.out] at h;exact absurd (congrArg List.length h) hlen)⟩⟩
 have hlb:((X.length:Int) !=(Y.length:Int))=false:=by rw [bne_eq_false_iff_eq];omega
 have HL:=Hid.mk hlen;clear hlen;go_enter Tryz.func133,Tryz.ntmps133;go_wp2;go_loopg [5] X.length (fun r n wr=>Bel w wr∧∃k:Nat,r=X.length - k∧k≤X.length∧n= .int .i64 k∧∀j (h1:j<X.length) (h2:j<Y.length),j<k→X[j]=Y[j])
 case atStart=>exact ⟨Bel.refl _,0,by omega,by omega,rfl,fun j _ _ h=>by omega⟩
 case round=>
  obtain ⟨hb,k,hr,hk,rfl,hall⟩:=hrel;have HA:=Hid.mk hall;clear hall;by_cases hlt:k<X.length
  ·have hlt2:k<Y.length:=by have:=HL.out;omega
   obtain ⟨gx,rfl,x0⟩:=hcx k hlt;obtain ⟨gy,rfl,y0⟩:=hcy k hlt2;have x0':=hb.cell x0;have y0':=hb.cell y0;clear hcx hcy x0 y0
   have hstep:Hid (X[k]=Y[k]→∀j (h1:j<X.length) (h2:j<Y.length),j<k+1→X[j]=Y[j]):=fun e j h1 h2 hj=>by
    by_cases he:j=k
    ·subst he;exact e
    ·exact HA.out j h1 h2 (by omega)
   have hno:Hid (X[k]≠Y[k]→¬Pr):=fun h hp=>by
    rw [HPr.out] at hp;subst hp;exact h rfl
   have HE:Hid (((X[k].toList==Y[k].toList)=true)↔X[k]=Y[k]):=str_eq;generalize X[k]=xk at *;generalize Y[k]=yk at *;cases heq:xk.toList==yk.toList
   ·have hbad:=Hid.mk (hno.out (fun e=>by rw [HE.out.2 e] at heq;cases heq));go_wp2_with fail;go_quiet (fail);go_wp2;go_ret;exact ⟨_,rfl,by (repeat (first|exact Bel.refl _|assumption|refine Bel.step_alloc ?_ _|refine Bel.step_drew ?_|refine Bel.step_drewN ?_ _|refine Bel.step_set ?_ (by simp <;>omega) _|refine Bel.trans ?_ (by assumption))),⟨fun h=>(by cases h),fun h=>absurd h hbad.out⟩⟩
   ·have hgood:=Hid.mk (hstep.out (HE.out.1 heq));go_wp2_with fail;go_quiet (fail);go_wp2;go_roundg (X.length - (k+1))
    case measure=>omega
    case rel=>exact ⟨by (repeat (first|exact Bel.refl _|assumption|refine Bel.step_alloc ?_ _|refine Bel.step_drew ?_|refine Bel.step_drewN ?_ _|refine Bel.step_set ?_ (by simp <;>omega) _|refine Bel.trans ?_ (by assumption))),k+1,rfl,by omega,by go_num,hgood.out⟩
  ·have hfin:Hid Pr:=by
    show Pr;rw [HPr.out];exact List.ext_getElem HL.out (fun j h1 h2=>HA.out j h1 h2 (by omega))
   clear hcx hcy
   go_wp2
   go_ret
   exact ⟨_,rfl,hb,⟨fun _=>hfin.out,fun _=>rfl⟩⟩
end Go.Proofs.YtpapdkhjdelfcabGreat

namespace Go.Proofs.YtpapdkhjdelfcabGreat
open Go.RowKit
def tt:ByteArray:=⟨#[126,126]⟩
theorem ownersF_gen (c:Cfg) (B:List BK) (g g':Int) (h:g=0→B=[]) (h':g'=0→B=[]):ownersF c B g=ownersF c B g':=by
 have key:∀(g:Int) (k:ByteArray),(g=0→B=[])→(localF c B g k).1=(ownerF c B k).1:=by
  intro g k hg;unfold localF;by_cases h0:g=0
  ·rw [if_pos h0];have hB:=hg h0;subst hB;rw [ownerF_eq,mkF_nil];rfl
  ·rw [if_neg h0]
 unfold ownersF;apply List.map_congr_left;intro k _;rw [key g _ h,key g' _ h']
theorem fresh_addE {B:List BK} (h:Good B) {i:Nat} (hi:i<B.length):addE ((B.drop (i+1)).map offW) B[i].1 ((B[i].2+1) % 7)=0:=by
 by_cases he:addE ((B.drop (i+1)).map offW) B[i].1 ((B[i].2+1) % 7)=0
 ·exact he
 ·have h1:=fresh_add h hi;unfold addB at h1;rw [if_neg he] at h1;have:=congrArg List.length h1;simp at this;omega
theorem offW_good {B:List BK} (h:Good B) (i:Nat):Good ((B.drop i).map offW):=by
 have hsub:Srt (B.drop i):=List.Pairwise.sublist (List.drop_sublist i B) h.2;refine ⟨⟨by simp;have:=h.1.1;omega,fun b hb=>?_⟩,?_⟩
 ·obtain ⟨x,hx,rfl⟩:=List.mem_map.1 hb;have:=h.1.2 x (List.mem_of_mem_drop hx);refine ⟨this.1,this.2.1,?_,?_⟩<;>simp only [offW] <;>omega
 ·exact List.pairwise_map.2 hsub
theorem genz_add {B:List BK} {g:Int} {id:ByteArray} {n:Int} (h:g=0→B=[]) (h0:0≤g):(if addE B id n=0 then g+1 else g)=0→addB B id n=[]:=by
 unfold addB;split
 ·intro h;omega
 ·exact h
theorem genz_rem {B:List BK} {g:Int} {id:ByteArray} (h:g=0→B=[]) (h0:0≤g):(if remE B id=0 then g+1 else g)=0→remB B id=[]:=by
 unfold remB;split
 ·intro h;omega
 ·exact h
theorem genz_set {B:List BK} {g:Int} {id:ByteArray} {n:Int} (h:g=0→B=[]) (h0:0≤g):(if setE B id n=0 then g+1 else g)=0→setB B id n=[]:=by
 unfold setB;split
 ·intro h;omega
 ·exact h
theorem weightF_neg {B:List BK} (h:PoolOK B) {id:ByteArray} (hw:weightF B id<0):¬atName id B<B.length:=fun ht=>by
 rw [weightF_there ht] at hw;have:=(h.2 _ (List.getElem_mem ht)).2.2.1;omega
theorem atName_off (B:List BK) (id:ByteArray):atName id (B.map offW)=atName id B:=by
 unfold atName;rw [List.findIdx_map];rfl
theorem drop_is (v:Value) (w:World):Calls Tryz.prog 49 #[v] w fun e w'=>e= .returned (.tuple #[])∧w=w':=by
 go_enter Tryz.func49,Tryz.ntmps49;go_wp2;go_end0;exact ⟨rfl,rfl⟩
theorem RowAt.masked {M:List Nat} {w:World} {v:Value} {n:Nat} {xs:List Value} (h:RowAt w v n xs) (hM:∀k∈M,w.heap.size≤k):RowAt (mask M w) v n xs:=by
 rcases h with h1|⟨g,cap,hv,hn,hg,hc⟩
 ·exact Or.inl h1
 ·exact Or.inr ⟨g,cap,hv,hn,by rw [mask_size];exact hg,fun j u hu=>mask_cell.2 ⟨hc j u hu,fun hm=>by have:=hM g hm;omega⟩⟩
def FrI (w w3:World) (q2:Nat) (on:Cfg) (B:List BK) (i:Nat) (wr:World):Prop:=∃(Bx:List BK) (gx:Int),SvcAt (.slice none 0 0) [q2] q2 on Bx gx wr∧Good Bx∧Bel w wr∧But [q2] w3 wr∧0≤gx∧gx≤20+(i:Int)∧(gx=0→Bx=[])∧(weightF B tt<0→Bx=B.take i++(B.drop i).map offW)
theorem fresh_is (W0:World) (p s:Nat) (k:KI) (w:World) (h:KInv W0 p s k w):
  Calls Tryz.prog 73 #[.pointer (some ⟨p,0,none⟩)] w (RBool w fun x=>x=true):=by
 have hW:=h.at_;have hS:=h.svc;have hP:=h.pool;have hG:=h.good;have honOK:=h.onok;have hg:=h.gen;clear h;have hEl:=mkF_len k.on k.B honOK hG.1;have hsl:=slots_v k.M k.q k.on k.B k.g w hS hEl;have how:=fun wx (b:Bel w wx)=>owners_is k.M k.q k.on k.B k.g wx (hS.later b) hEl honOK
 have hnw:=fun wx=>new_is k.on wx honOK
 have hwt:=fun wx (b:Bel w wx)=>weight_is k.B k.vb tt wx (hP.unmask.later b) (by have:=hG.1.1;omega)
 have c7:=hW.1 7 _ rfl;have c8:=hW.1 8 _ rfl;have c9:=hW.1 9 _ rfl;have c10:=hW.1 10 _ rfl;have c11:=hW.1 11 _ rfl;have c12:=hW.1 12 _ rfl;have c13:=hW.1 13 _ rfl;have c14:=hW.1 14 _ rfl;have h8:=hG.1.1;obtain ⟨ab,cb,hvb,hcell⟩:=hP.unmask.open;rw [hvb] at c14 hwt;have HGB:Hid (k.g=0→k.B=[]):=hg.2.2;have HG:=Hid.mk hG;have HON:=Hid.mk honOK;have HEl:=Hid.mk hEl;obtain ⟨NL,hNL⟩:∃NL,NL=namesF k.B (mkF k.on k.B):=⟨_,rfl⟩;obtain ⟨OB,hOB⟩:∃OB,OB=ownersF k.on k.B k.g:=⟨_,rfl⟩;rw [←hNL] at hsl;rw [←hOB] at how;have HNL:=Hid.mk hNL;have HOB:=Hid.mk hOB;have hNLl:NL.length≤65536:=by rw [hNL,namesF,List.length_map];exact hEl
 have hOBl:OB.length≤65536:=by rw [hOB,ownersF];simp
 clear hNL hOB hW hS hP hG hEl honOK hvb;obtain ⟨M0,q0,c0,on,B,g0,vb0,vw0,vs0,vh0,vf0,img0,part0,L0,pp0,vr0,sp0,hd0,fr0,fb0,ds0,dh0,bs0⟩:=k;simp only [Cfg.cells] at *;go_enter Tryz.func73,Tryz.ntmps73;go_wp2_with fail;refine hsl.mono ?_;rintro e w1 ⟨va,rfl,hb1,hOa, -⟩;have d7:=hb1.cell c7;go_wp2_with fail;refine (how _ hb1).mono ?_;rintro e w2 ⟨vo,rfl,hb2,hOo⟩;have hb02:=hb1.trans hb2;have e8:=hb02.cell c8;have e9:=hb02.cell c9;have e10:=hb02.cell c10;have e11:=hb02.cell c11;have e12:=hb02.cell c12;have e13:=hb02.cell c13;go_wp2_with fail;refine (hnw _).mono ?_;rintro e w3 ⟨q2,rfl,hb3,hq2a,hq2b,hS3⟩;have hb03:=hb02.trans hb3;have hS3:=hS3 [q2] (by simp);have e14:=hb03.cell c14;have hAt:Hid (RowAt (mask [q2] w3) va NL.length (NL.map Value.string)):=(((RowAt.of_owns hOa).later hb2).masked (M:=[q2]) (by simpa using hq2a)).later (But.of_bel hb3);have hOt:Hid (RowAt (mask [q2] w3) vo OB.length (OB.map Value.string)):=((RowAt.of_owns hOo).masked (M:=[q2]) (by simpa using hq2a)).later (But.of_bel hb3);have hqw:w.heap.size≤q2:=Nat.le_trans hb02.size hq2a;clear hsl how hnw hOa hOo hb1 hb2 hb3 d7 e8 e9 e10 e11 e12 e13 hb02;go_wp2;go_loopg [7] B.length (fun r vi wr=>∃(i:Nat) (gx:Int),r=i∧i≤B.length∧vi= .int .i64 ((i:Int) - 1)∧Bel w wr∧But [q2] w3 wr∧SvcAt (.slice none 0 0) [q2] q2 on ((B.drop i).map offW) gx wr∧0≤gx∧gx≤8 - (i:Int)∧(gx=0→(B.drop i).map offW=[]))
 case atStart=>exact ⟨B.length,0,rfl,by omega,rfl,hb03,But.refl _ _,by simpa using hS3,by omega,by omega,fun _=>by simp⟩
 case round=>
  obtain ⟨i,gx,hri,hi,rfl,hbr,hbtr,hSr,hgx0,hgx1,hgxn⟩:=hrel;have f14:=hbr.cell c14;cases i with
  |succ i=>
   have hil:i<B.length:=by omega
   obtain ⟨g,rfl,x0,x1⟩:=hcell i hil;have y0:=hbr.cell x0;have y1:=hbr.cell x1;have hwb:=(HG.out.1.2 _ (List.getElem_mem hil)).2.2;have had:=fun wx (hS:SvcAt (.slice none 0 0) [q2] q2 on ((B.drop (i+1)).map offW) gx wx) (hq:q2<wx.heap.size)=>add_is [q2] q2 on ((B.drop (i+1)).map offW) gx B[i].1 ((B[i].2+1) % 7) wx hS (by simpa using hq) HON.out (offW_good HG.out (i+1)) hgx0 (by omega)
   rw [fresh_addE HG.out hil,fresh_add HG.out hil] at had;simp only [if_true] at had;have HSr:=Hid.mk hSr;have hqr:q2<wr.heap.size:=hSr.lt;have hne:Hid (gx+1=0→(B.drop i).map offW=[]):=fun h=>by omega
   obtain ⟨hw1,hw2⟩:=hwb;clear hcell hSr hgxn hS3;generalize hLi:(B.drop i).map offW=Li at *;have HLi:=Hid.mk hLi;clear hLi;generalize B[i].1=idi at *;generalize B[i].2=wi at *;rw [show (wi+1) % 7=(wi+1).tmod 7 from (Int.tmod_eq_emod_of_nonneg (by omega)).symm] at had;have hwa:IntKind.i64.wrap (wi+1)=wi+1:=by rw [IntKind.wrap_i64];omega
   have hij:(i:Int)+1 - 1=(i:Int):=by omega
   have hge:decide (((i:Int)+1 - 1)≥0)=true:=decide_eq_true (by omega);go_wp2_with fail;go_region_held3 (fun w'=>Bel w w'∧w'.cell? ⟨p,14,none⟩=some (.slice (some ⟨g,0,none⟩) B.length cb)∧w'.cell? ⟨g,i * 2,none⟩=some (.string idi)∧w'.cell? ⟨g,i * 2+1,none⟩=some (.int .i64 wi)) ((exact ⟨by (repeat (first|exact Bel.refl _|assumption|refine Bel.step_alloc ?_ _|refine Bel.step_drew ?_|refine Bel.step_drewN ?_ _|refine Bel.step_set ?_ (by simp <;>omega) _|refine Bel.trans ?_ (by assumption))),Bel.cell (a:=w) (by (repeat (first|exact Bel.refl _|assumption|refine Bel.step_alloc ?_ _|refine Bel.step_drew ?_|refine Bel.step_drewN ?_ _|refine Bel.step_set ?_ (by simp <;>omega) _|refine Bel.trans ?_ (by assumption)))) c14,Bel.cell (a:=w) (by (repeat (first|exact Bel.refl _|assumption|refine Bel.step_alloc ?_ _|refine Bel.step_drew ?_|refine Bel.step_drewN ?_ _|refine Bel.step_set ?_ (by simp <;>omega) _|refine Bel.trans ?_ (by assumption)))) x0,Bel.cell (a:=w) (by (repeat (first|exact Bel.refl _|assumption|refine Bel.step_alloc ?_ _|refine Bel.step_drew ?_|refine Bel.step_drewN ?_ _|refine Bel.step_set ?_ (by simp <;>omega) _|refine Bel.trans ?_ (by assumption)))) x1⟩)) ((go_at_call 24;refine (had _ (HSr.out.later (Bel.step_drew (Bel.refl wr))) hqr).mono ?_;rintro e w5 ⟨rfl,hbt,hS5⟩;have hb5:Bel w w5:=But.belTo (Bel.step_drew hbr) hbt (by simpa using hqw)))
   all_goals
    have hbt2:=(hbtr.drew).trans hbt;have HS5:=Hid.mk hS5;clear hS5 hbt had;go_wp2;go_roundg i
    case measure=>omega
    case rel=>exact ⟨i,gx+1,rfl,by omega,by go_num,hb5,hbt2,by rw [HLi.out];exact HS5.out,by omega,by omega,by rw [HLi.out];exact hne.out⟩
  |zero=>
   have hge:decide ((((0:Nat):Int) - 1)≥0)=false:=rfl;rw [List.drop_zero] at hSr hgxn;have HSr:=Hid.mk hSr;have HGN:=Hid.mk hgxn;clear hSr hgxn hS3;go_upto_if 69 with fail
   go_cut [] (FrI w w3 q2 on B 0)
   case first=>
    by_cases hl:B.length<8
    ·have hd:decide ((B.length:Int)<8)=true:=decide_eq_true (by omega);have had:=add_is [q2] q2 on (B.map offW) gx tt 3 wr HSr.out (by simpa using HSr.out.lt) HON.out (by have:=offW_good HG.out 0;rwa [List.drop_zero] at this) hgx0 (by omega);have hgd1:Good (addB (B.map offW) tt 3):=(by have:=offW_good HG.out 0;rwa [List.drop_zero] at this:Good (B.map offW)).add tt 3;have hz1:=genz_add (id:=tt) (n:=3) HGN.out hgx0
     have hback:Hid (weightF B tt<0→remB (addB (B.map offW) tt 3) tt=B.map offW):=fun hT=>by
      have hno:=weightF_neg HG.out.1 hT;refine there_in_out (by have:=(offW_good HG.out 0).2;rwa [List.drop_zero] at this) tt 3 ?_;unfold addE;rw [if_neg (by decide),if_neg (by decide),if_neg (by rw [atName_off,List.length_map];exact hno),if_neg (by rw [List.length_map];omega)]
     have hgb1:0≤(if addE (B.map offW) tt 3=0 then gx+1 else gx)∧(if addE (B.map offW) tt 3=0 then gx+1 else gx)≤10:=by split <;>omega
     generalize (if addE (B.map offW) tt 3=0 then gx+1 else gx)=g1 at *;generalize addE (B.map offW) tt 3=er1 at *;generalize addB (B.map offW) tt 3=B1 at *;obtain ⟨hg1a,hg1b⟩:=hgb1;clear hcell;go_wp2_with fail;refine had.mono ?_;rintro e w4 ⟨rfl,hbt4,hS4⟩;have hrm:=remove_is [q2] q2 on B1 g1 tt w4 hS4 (by simpa using hS4.lt) HON.out hgd1 hg1a (by omega);have hgd2:=hgd1.rem tt;have hz2:=genz_rem (id:=tt) hz1 hg1a;have hgb2:0≤(if remE B1 tt=0 then g1+1 else g1)∧(if remE B1 tt=0 then g1+1 else g1)≤11:=by split <;>omega
     generalize (if remE B1 tt=0 then g1+1 else g1)=g2 at *;generalize remE B1 tt=er2 at *;generalize remB B1 tt=B2 at *;obtain ⟨hg2a,hg2b⟩:=hgb2;clear had;go_wp2_with fail;refine hrm.mono ?_;rintro e w5 ⟨rfl,hbt5,hS5⟩;clear hrm;go_wp2_with fail;go_meet
     case rel=>exact ⟨B2,g2,hS5,hgd2,But.belTo (But.belTo hbr hbt4 (by simpa using hqw)) hbt5 (by simpa using hqw),hbtr.trans (hbt4.trans hbt5),hg2a,by omega,hz2,fun hT=>by rw [hback.out hT];simp⟩
    ·have hd:decide ((B.length:Int)<8)=false:=decide_eq_false (by omega);clear hcell;go_wp2_with fail;go_meet
     case rel=>exact ⟨B.map offW,gx,HSr.out,by have:=offW_good HG.out 0;rwa [List.drop_zero] at this,hbr,hbtr,hgx0,by omega,HGN.out,fun _=>by simp⟩
   case rest=>
    clear HSr HGN hgx0 hgx1 hbr hbtr f14;have HF:=Hid.mk hcut;clear hcut;go_wp2;go_loopg [8] B.length (fun r vi wr=>∃i:Nat,r=B.length - i∧i≤B.length∧vi= .int .i64 i∧FrI w w3 q2 on B i wr)
    case atStart=>exact ⟨0,by omega,by omega,rfl,HF.out⟩
    case round=>
     obtain ⟨i,hri2,hi2,rfl,Bx,gx2,hSx,hGx,hbx,hbtx,hg0,hg1,hzx,hTx⟩:=hrel;have f14:=hbx.cell c14;by_cases hil:i<B.length
     ·obtain ⟨g,rfl,x0,x1⟩:=hcell i hil;have hst:=fun wx (hS:SvcAt (.slice none 0 0) [q2] q2 on Bx gx2 wx)=>set_is [q2] q2 on Bx gx2 B[i].1 B[i].2 wx hS (by simpa using hS.lt) HON.out hGx hg0 (by omega)
      have hGx':=hGx.set B[i].1 B[i].2;have hzx':=genz_set (id:=B[i].1) (n:=B[i].2) hzx hg0;have hT':Hid (weightF B tt<0→setE Bx B[i].1 B[i].2=0∧setB Bx B[i].1 B[i].2=B.take (i+1)++(B.drop (i+1)).map offW):=fun hT=>by rw [hTx hT];exact fresh_set HG.out hil
      have hgb:0≤(if setE Bx B[i].1 B[i].2=0 then gx2+1 else gx2)∧(if setE Bx B[i].1 B[i].2=0 then gx2+1 else gx2)≤20+((i+1:Nat):Int):=by split <;>omega
      have HSx:=Hid.mk hSx;have hwti:=hwt;generalize (if setE Bx B[i].1 B[i].2=0 then gx2+1 else gx2)=g' at *;generalize setE Bx B[i].1 B[i].2=er at *;generalize setB Bx B[i].1 B[i].2=B' at *;generalize B[i].1=idi at *;generalize B[i].2=wi at *;have HZ:=Hid.mk hzx';have HGX:=Hid.mk hGx';obtain ⟨hgb1,hgb2⟩:=hgb;clear hcell hSx hGx hzx hTx hzx' hGx' HF;have hd:decide ((i:Int)<(B.length:Int))=true:=decide_eq_true (by omega);go_wp2_with fail;refine (drop_is _ _).mono ?_;rintro e w' ⟨rfl,rfl⟩;go_wp2_with fail;go_region_held3 (fun w'=>Bel w w'∧w'.cell? ⟨p,14,none⟩=some (.slice (some ⟨g,0,none⟩) B.length cb)∧w'.cell? ⟨g,i * 2,none⟩=some (.string idi)∧w'.cell? ⟨g,i * 2+1,none⟩=some (.int .i64 wi)) ((exact ⟨by (repeat (first|exact Bel.refl _|assumption|refine Bel.step_alloc ?_ _|refine Bel.step_drew ?_|refine Bel.step_drewN ?_ _|refine Bel.step_set ?_ (by simp <;>omega) _|refine Bel.trans ?_ (by assumption))),Bel.cell (a:=w) (by (repeat (first|exact Bel.refl _|assumption|refine Bel.step_alloc ?_ _|refine Bel.step_drew ?_|refine Bel.step_drewN ?_ _|refine Bel.step_set ?_ (by simp <;>omega) _|refine Bel.trans ?_ (by assumption)))) c14,Bel.cell (a:=w) (by (repeat (first|exact Bel.refl _|assumption|refine Bel.step_alloc ?_ _|refine Bel.step_drew ?_|refine Bel.step_drewN ?_ _|refine Bel.step_set ?_ (by simp <;>omega) _|refine Bel.trans ?_ (by assumption)))) x0,Bel.cell (a:=w) (by (repeat (first|exact Bel.refl _|assumption|refine Bel.step_alloc ?_ _|refine Bel.step_drew ?_|refine Bel.step_drewN ?_ _|refine Bel.step_set ?_ (by simp <;>omega) _|refine Bel.trans ?_ (by assumption)))) x1⟩)) ((go_at_call 96;refine (hst _ (HSx.out.later (Bel.step_drew (Bel.refl wr)))).mono ?_;rintro e w5 ⟨rfl,hbt,hS5⟩;have hb5:Bel w w5:=But.belTo (Bel.step_drew hbx) hbt (by simpa using hqw)))
      all_goals
       have hbt2:=(hbtx.drew).trans hbt;have HS5:=Hid.mk hS5;have h14:=hb5.cell c14;have hwtx:=hwti _ hb5;clear hS5 hbt hst hwti hwt;by_cases her:er=0
       ·subst her;have HT2:Hid (weightF B tt<0→B'=B.take (i+1)++(B.drop (i+1)).map offW):=fun hT=>(hT'.out hT).2
        clear hwtx hT';go_wp2;go_roundg (B.length - (i+1))
        case measure=>omega
        case rel=>exact ⟨i+1,rfl,by omega,by go_num,B',g',HS5.out,HGX.out,hb5,hbt2,hgb1,hgb2,HZ.out,HT2.out⟩
       ·have herb:(er !=0)=true:=by rw [bne_iff_ne];exact her
        have hT0:0≤weightF B tt:=by
         by_cases hT:weightF B tt<0
         ·exact absurd (hT'.out hT).1 her
         ·omega
        generalize weightF B tt=wtt at *;have hdw:decide (wtt≥0)=true:=decide_eq_true hT0;clear hT';go_wp2_with fail;refine hwtx.mono ?_;rintro e w6 ⟨rfl,hb6⟩;go_wp2;go_ret;exact ⟨true,rfl,hb5.trans hb6,rfl⟩
     ·obtain rfl:i=B.length:=by omega
      have hd:decide ((B.length:Int)<(B.length:Int))=false:=decide_eq_false (by omega);have hslx:=slots_is [q2] q2 on Bx gx2 wr hSx (mkF_len on Bx HON.out hGx.1);have howx:=fun wx (b:Bel wr wx)=>owners_is [q2] q2 on Bx gx2 wx (hSx.later b).svp (mkF_len on Bx HON.out hGx.1) HON.out
      have hnl2:(namesF Bx (mkF on Bx)).length≤65536:=by rw [namesF,List.length_map];exact mkF_len on Bx HON.out hGx.1
      have hol2:(ownersF on Bx gx2).length≤65536:=by rw [ownersF];simp
      have hTB:Hid (weightF B tt<0→NL=namesF Bx (mkF on Bx)∧OB=ownersF on Bx gx2):=fun hT=>by
       have hB:Bx=B:=by rw [hTx hT];simp
       subst hB;exact ⟨HNL.out,by rw [HOB.out];exact ownersF_gen on _ _ _ HGB.out hzx⟩
      generalize namesF Bx (mkF on Bx)=NX at *;generalize ownersF on Bx gx2=OX at *;have hAm:RowAt wr va NL.length (NL.map Value.string):=(hAt.out.later hbtx).unmask;have hOm:RowAt wr vo OB.length (OB.map Value.string):=(hOt.out.later hbtx).unmask;clear hcell hTx HF hGx hSx;go_wp2_with fail;refine hslx.mono ?_;rintro e w5 ⟨vx,rfl,hb5,hOx, -⟩;go_wp2_with fail;refine (howx _ hb5).mono ?_;rintro e w6 ⟨vy,rfl,hb6,hOy⟩;have hb56:=hb5.trans hb6;have hal1:=alike_is NL NX va vx w6 (hAm.later hb56) ((RowAt.of_owns hOx).later hb6) hNLl hnl2;have hal2:=fun wx (b:Bel w6 wx)=>alike_is OB OX vo vy wx ((hOm.later hb56).later b) ((RowAt.of_owns hOy).later b) hOBl hol2
      clear hslx howx hOx hOy;go_wp2_with fail;refine hal1.mono ?_;rintro e w7 ⟨x1,rfl,hb7,hx1⟩;go_wp2_with fail;refine (hal2 _ hb7).mono ?_;rintro e w8 ⟨x2,rfl,hb8,hx2⟩;have hb08:Bel w w8:=hbx.trans (hb56.trans (hb7.trans hb8));have h14:=hb08.cell c14;have hwtx:=hwt _ hb08
      have hfin:Hid (0≤weightF B tt∨(x1=true∧x2=true)):=by
       by_cases hT:weightF B tt<0
       ·exact Or.inr ⟨hx1.2 (hTB.out hT).1,hx2.2 (hTB.out hT).2⟩
       ·exact Or.inl (by omega)
      generalize weightF B tt=wtt at *;clear hal1 hal2 hx1 hx2 hTB hwt;by_cases hT0:0≤wtt
      ·have hdw:decide (wtt≥0)=true:=decide_eq_true hT0;go_wp2_with fail;refine hwtx.mono ?_;rintro e w9 ⟨rfl,hb9⟩;go_wp2;go_ret;exact ⟨true,rfl,hb08.trans hb9,rfl⟩
      ·have hdw:decide (wtt≥0)=false:=decide_eq_false hT0;obtain ⟨rfl,rfl⟩:=hfin.out.resolve_left hT0;go_wp2_with fail;refine hwtx.mono ?_;rintro e w9 ⟨rfl,hb9⟩;go_wp2;go_ret;exact ⟨true,rfl,hb08.trans hb9,rfl⟩
end Go.Proofs.YtpapdkhjdelfcabGreat
