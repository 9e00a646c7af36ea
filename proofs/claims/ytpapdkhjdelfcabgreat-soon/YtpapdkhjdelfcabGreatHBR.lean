import Derived.Test.YtpapdkhjdelfcabGreatHBP
set_option maxRecDepth 100000
set_option maxHeartbeats 4000000
namespace Go.Proofs.YtpapdkhjdelfcabGreat
open Go.RowKit
def wl0 (part:Int) (c:Cfg) (r:List Value):List Value:=[.int .i64 part,.int .i64 c.alg,.int .i64 c.slots,.int .i64 c.points,.int .i64 c.probes,.string c.key,.int .i64 c.formats]++r
theorem WAt.len {p:Nat} {L:List Value} {w:World} (h:WAt p L w) {o:Nat} (ho:o<L.length):∃u,w.cell? ⟨p,o,none⟩=some u:=⟨L[o],h.1 o _ (by simp [ho])⟩
theorem SvcAt.svp {M:List Nat} {q:Nat} {c:Cfg} {B:List BK} {g:Int} {w:World} (h:SvcAt (.slice none 0 0) M q c B g w):SvpAt M q ⟨c,B,g,[],[]⟩ w:=
 ⟨_,h,World.ownsRow_nil _ _ _ _,rfl,by simp,by simp,by simp [Svp.own,blk],by simp⟩
theorem tr_begin {c:Cfg} (hc:c.OK):TruP c [] 0 [] [] [] [] []:=⟨⟨hc,by simp,fun B hB=>(by cases hB)⟩,rfl,fun h=>absurd h (by decide),fun t ht=>(by cases ht),fun y hy=>(by cases hy),fun n x y h _=>(by simp at h),fun n x y h _=>(by simp at h)⟩
def RBegin (W0:World) (p s:Nat) (e:Ending) (w':World):Prop:=e= .returned (.bool true)∧∃k,KInv W0 p s k w'∧k.Rdy s
theorem kbegin_is (W0:World) (p s:Nat) (part:Int) (c:Cfg) (r7 r8 r9 r10 r11 r12 r13 r14 r15 r16 r17 r18 r19:Value) (w:World) (hW:WAt p (wl0 part c [r7,r8,r9,r10,r11,r12,r13,r14,r15,r16,r17,r18,r19]) w) (hc:c.OK) (hb:Bel W0 w) (hp:W0.heap.size≤p):
  Calls Tryz.prog 35 #[.pointer (some ⟨p,0,none⟩)] w (RBegin W0 p s):=by
 have hnw:=new_is c w hc;have HC:=Hid.mk hc;have HW:=Hid.mk hW;have hplt:p<w.heap.size:=hW.lt (by simp [wl0]);have k1:=hW.1 1 _ rfl;have k2:=hW.1 2 _ rfl;have k3:=hW.1 3 _ rfl;have k4:=hW.1 4 _ rfl;have k5:=hW.1 5 _ rfl;have k6:=hW.1 6 _ rfl;have hcs:Hid (∀o u,7≤o→(wl0 part c [r7,r8,r9,r10,r11,r12,r13,r14,r15,r16,r17,r18,r19])[o]?=some u→w.cell? ⟨p,o,none⟩=some u∧w.frozen? ⟨p,o,none⟩=false):=fun o u _ h=>⟨hW.1 o u h,hW.2 o (List.getElem?_eq_some_iff.1 h).1⟩
 clear hW hc;obtain ⟨c7,f7⟩:=hcs.out 7 _ (by omega) rfl;obtain ⟨c8,f8⟩:=hcs.out 8 _ (by omega) rfl;obtain ⟨c9,f9⟩:=hcs.out 9 _ (by omega) rfl;obtain ⟨c10,f10⟩:=hcs.out 10 _ (by omega) rfl;obtain ⟨c11,f11⟩:=hcs.out 11 _ (by omega) rfl;obtain ⟨c12,f12⟩:=hcs.out 12 _ (by omega) rfl;obtain ⟨c13,f13⟩:=hcs.out 13 _ (by omega) rfl;obtain ⟨c14,f14⟩:=hcs.out 14 _ (by omega) rfl;obtain ⟨c15,f15⟩:=hcs.out 15 _ (by omega) rfl;obtain ⟨c16,f16⟩:=hcs.out 16 _ (by omega) rfl;obtain ⟨c17,f17⟩:=hcs.out 17 _ (by omega) rfl;obtain ⟨c18,f18⟩:=hcs.out 18 _ (by omega) rfl;obtain ⟨c19,f19⟩:=hcs.out 19 _ (by omega) rfl;clear hcs;go_enter Tryz.func35,Tryz.ntmps35;simp only [Cfg.cells] at hnw;go_wp2_with fail;refine hnw.mono ?_;rintro e w1 ⟨q,rfl,hb1,hq1,hq2,hS⟩;have l1:=hb1.cell k1;have l2:=hb1.cell k2;have l3:=hb1.cell k3;have l4:=hb1.cell k4;have l5:=hb1.cell k5;have l6:=hb1.cell k6;have d7:=hb1.cell c7;have d8:=hb1.cell c8;have d9:=hb1.cell c9;have d10:=hb1.cell c10;have d11:=hb1.cell c11;have d12:=hb1.cell c12;have d13:=hb1.cell c13;have d14:=hb1.cell c14;have d15:=hb1.cell c15;have d16:=hb1.cell c16;have d17:=hb1.cell c17;have d18:=hb1.cell c18;have d19:=hb1.cell c19;have e7:=hb1.frozen c7 f7;have e8:=hb1.frozen c8 f8;have e9:=hb1.frozen c9 f9;have e10:=hb1.frozen c10 f10;have e11:=hb1.frozen c11 f11;have e12:=hb1.frozen c12 f12;have e13:=hb1.frozen c13 f13;have e14:=hb1.frozen c14 f14;have e15:=hb1.frozen c15 f15;have e16:=hb1.frozen c16 f16;have e17:=hb1.frozen c17 f17;have e18:=hb1.frozen c18 f18;have e19:=hb1.frozen c19 f19;have HS:=Hid.mk hS;have hplt1:p<w1.heap.size:=Nat.lt_of_lt_of_le hplt hb1.size;clear c7 c8 c9 c10 c11 c12 c13 c14 c15 c16 c17 c18 c19 f7 f8 f9 f10 f11 f12 f13 f14 f15 f16 f17 f18 f19 k1 k2 k3 k4 k5 k6 hS hnw;go_wp2;go_ret;have hW1:=HW.out.later hb1;obtain ⟨w2,hw2⟩:∃w2,w2=(((((((((((((w1.setCell ⟨p,7,none⟩ (.pointer (some ⟨q,0,none⟩))).setCell ⟨p,8,none⟩ (.int .i64 c.alg)).setCell ⟨p,9,none⟩ (.int .i64 c.slots)).setCell ⟨p,10,none⟩ (.int .i64 c.points)).setCell ⟨p,11,none⟩ (.int .i64 c.probes)).setCell ⟨p,12,none⟩ (.string c.key)).setCell ⟨p,13,none⟩ (.int .i64 c.formats)).setCell ⟨p,14,none⟩ (.slice none 0 0)).setCell ⟨p,15,none⟩ (.slice (some ⟨w1.heap.size,0,none⟩) 1 1)).setCell ⟨p,16,none⟩ (.slice none 0 0)).setCell ⟨p,17,none⟩ (.slice none 0 0)).setCell ⟨p,18,none⟩ (.slice none 0 0)).setCell ⟨p,19,none⟩ (.string {data:=#[]})):=⟨_,rfl⟩;have hW2:=(((((((((((((hW1.set 7 (.pointer (some ⟨q,0,none⟩))).set 8 (.int .i64 c.alg)).set 9 (.int .i64 c.slots)).set 10 (.int .i64 c.points)).set 11 (.int .i64 c.probes)).set 12 (.string c.key)).set 13 (.int .i64 c.formats)).set 14 (.slice none 0 0)).set 15 (.slice (some ⟨w1.heap.size,0,none⟩) 1 1)).set 16 (.slice none 0 0)).set 17 (.slice none 0 0)).set 18 (.slice none 0 0)).set 19 (.string {data:=#[]}))
 have b2:But [p] w1 w2:=by
  rw [hw2];exact ((((((((((((((But.refl [p] w1).set (p:=⟨p,7,none⟩) (by simp) _).set (p:=⟨p,8,none⟩) (by simp) _).set (p:=⟨p,9,none⟩) (by simp) _).set (p:=⟨p,10,none⟩) (by simp) _).set (p:=⟨p,11,none⟩) (by simp) _).set (p:=⟨p,12,none⟩) (by simp) _).set (p:=⟨p,13,none⟩) (by simp) _).set (p:=⟨p,14,none⟩) (by simp) _).set (p:=⟨p,15,none⟩) (by simp) _).set (p:=⟨p,16,none⟩) (by simp) _).set (p:=⟨p,17,none⟩) (by simp) _).set (p:=⟨p,18,none⟩) (by simp) _).set (p:=⟨p,19,none⟩) (by simp) _)
 rw [←hw2] at hW2 ⊢;have hs2:w2.heap.size=w1.heap.size:=by rw [hw2];simp [World.setCell]
 have hown:(w2.alloc (.cells #[.slice none 0 0] 40)).ownsRow W0.heap.size 40 1 (.slice (some ⟨w1.heap.size,0,none⟩) 1 1) 1 [.slice none 0 0]:=by
  rw [←hs2];exact World.ownsRow_lit w2 #[.slice none 0 0] 1 (by have:=(hb.trans hb1).size;omega) (by decide) rfl
 have b4:But [p] w1 (w2.alloc (.cells #[.slice none 0 0] 40)):=b2.alloc _;have hW4:=hW2.later ((Bel.refl w2).step_alloc (.cells #[.slice none 0 0] 40));have hs4:(w2.alloc (.cells #[.slice none 0 0] 40)).heap.size=w1.heap.size+1:=by simp [hs2]
 have hqp:p≠q:=by omega
 have hsf:=b4.size
 have hM:∀j∈[w1.heap.size,q,p],W0.heap.size≤j∧j<(w2.alloc (.cells #[.slice none 0 0] 40)).heap.size:=by
  intro j hj;have h0:=(hb.trans hb1).size;have h1:=hb.size;simp only [List.mem_cons,List.not_mem_nil,or_false] at hj;rcases hj with rfl|rfl|rfl
  ·exact ⟨h0,by rw [hs4];omega⟩
  ·exact ⟨by omega,by rw [hs4];omega⟩
  ·exact ⟨hp,by rw [hs4];omega⟩
 have hS4:SvpAt [w1.heap.size,q,p] q ⟨c,[],0,[],[]⟩ (w2.alloc (.cells #[.slice none 0 0] 40)):=(SvcAt.svp (HS.out [w1.heap.size,q,p] (by simp))).but b4 (by simpa [Svp.own,blk] using hqp) (by simp);have hz:=fun (e:TypeId) (sz:Nat)=>World.ownsRow_nil (w2.alloc (.cells #[.slice none 0 0] 40)) W0.heap.size e sz
 refine ⟨rfl,⟨[w1.heap.size,q,p],q,c,c,[],0,.slice none 0 0,.slice (some ⟨w1.heap.size,0,none⟩) 1 1,.slice none 0 0,.slice none 0 0,.slice none 0 0,ByteArray.empty,part,[],[],[],[],[],[],0,0,0,[]⟩,⟨hW4,?_,?_,hM,But.belTo (hb.trans hb1) b4 (by intro j hj;simp at hj;subst hj;exact hp),hS4,Or.inl ⟨rfl,rfl,rfl⟩,Good.nil,HC.out,HC.out,⟨by simp,by simp,fun _=>rfl⟩,hown,rfl,⟨rfl,fun i v X hv hX=>by simp at hv⟩,hz _ _,hz _ _,rfl,rfl,fun x hx=>by simp at hx,hz _ _,Nat.le_refl _,fun t ht=>by simp at ht,Nat.zero_le _⟩,rfl,rfl,Nat.zero_le _,fun t ht=>by simp at ht,Or.inl rfl,tr_begin HC.out⟩
 ·show (p::(gl (.slice (some ⟨w1.heap.size,0,none⟩) 1 1)++gl (.slice none 0 0)++gl (.slice none 0 0)++gl (.slice none 0 0)++(Svp.mk c [] 0 [] []).own q)).Nodup;simp [gl,Value.ownBlock,Svp.own,blk];omega
 ·intro j hj;have:j∈p::(gl (.slice (some ⟨w1.heap.size,0,none⟩) 1 1)++gl (.slice none 0 0)++gl (.slice none 0 0)++gl (.slice none 0 0)++(Svp.mk c [] 0 [] []).own q):=hj;simp [gl,Value.ownBlock,Svp.own,blk] at this;simp;omega
end Go.Proofs.YtpapdkhjdelfcabGreat
namespace Go.Proofs.YtpapdkhjdelfcabGreat
open Go.RowKit
def RNumK (W0:World) (p s:Nat) (e:Ending) (w':World):Prop:=e= .returned (.tuple #[])∧∃k,KInv W0 p s k w'∧k.Rdy s
def primesL:List Nat:=[3,5,7,11,13,17,23,31,43,61,101,151,211]
theorem primesL_ok (j:Nat) (h:j<13):3≤primesL.getD j 0∧primesL.getD j 0≤211∧∀d:Nat,2≤d→(d:Int)<(primesL.getD j 0:Nat)→((primesL.getD j 0:Nat):Int) % d≠0:=by
 have key:∀j,j<13→3≤primesL.getD j 0∧primesL.getD j 0≤211∧∀d,d<211→2≤d→d<primesL.getD j 0→primesL.getD j 0 % d≠0:=by decide+kernel
 obtain ⟨h1,h2,h3⟩:=key j h;refine ⟨h1,h2,fun d hd1 hd2=>?_⟩;have:=h3 d (by omega) hd1 (by omega);omega
theorem primes_is (w:World):Calls Tryz.prog 128 #[] w fun e w'=>e= .returned (.slice (some ⟨w.heap.size,0,none⟩) 13 13)∧w'=w.alloc (.cells #[.int .i64 3,.int .i64 5,.int .i64 7,.int .i64 11,.int .i64 13,.int .i64 17,.int .i64 23,.int .i64 31,.int .i64 43,.int .i64 61,.int .i64 101,.int .i64 151,.int .i64 211] 3):=by
 go_enter Tryz.func128,Tryz.ntmps128;go_wp2;go_ret;exact ⟨rfl,rfl⟩
theorem primes_cell (w:World) (j:Nat) (h:j<13):(w.alloc (.cells #[.int .i64 3,.int .i64 5,.int .i64 7,.int .i64 11,.int .i64 13,.int .i64 17,.int .i64 23,.int .i64 31,.int .i64 43,.int .i64 61,.int .i64 101,.int .i64 151,.int .i64 211] 3)).cell? ⟨w.heap.size,j,none⟩=some (.int .i64 (primesL.getD j 0:Nat)):=by
 rcases (show j=0∨j=1∨j=2∨j=3∨j=4∨j=5∨j=6∨j=7∨j=8∨j=9∨j=10∨j=11∨j=12 by omega) with rfl|rfl|rfl|rfl|rfl|rfl|rfl|rfl|rfl|rfl|rfl|rfl|rfl <;>simp [primesL]
theorem number_is (W0:World) (p s:Nat) (k:KI) (kk v:Int) (w:World) (h:KInv W0 p s k w) (hR:k.Rdy s) (hk0:0≤kk) (hk4:kk<5) (hv:I64 v):
  Calls Tryz.prog 71 #[.pointer (some ⟨p,0,none⟩),.int .i64 kk,.int .i64 v] w (RNumK W0 p s):=by
 have hW:=h.at_;have hc:=h.cok;have HI:=Hid.mk h;obtain ⟨hc1,hc2,hc3,hc4,hc5,hc6,hc7,hc8,hc9,hc10,hc11,hc12⟩:=hc;rcases (show kk=0∨kk=1∨kk=2∨kk=3∨kk=4 by omega) with rfl|rfl|rfl|rfl|rfl
 ·have hpk:=fun wx=>pick_is v 4 wx hv (by omega) (by omega)
  obtain ⟨hx1,hx2⟩:=pickF_range v 4 (by omega);generalize pickF v 4=x at *;have c0:=hW.1 1 _ rfl;have f0:=hW.2 1 (by rw [wl_len];decide);have hok:Hid (Cfg.OK {k.c with alg:=1+x}):=⟨(by simp only;omega),(by simp only;omega),hc3,hc4,hc5,hc6,hc7,hc8,hc9,hc10,hc11,hc12⟩;have HW:=Hid.mk (hW.set 1 (.int .i64 (1+x)));clear h hW;go_enter Tryz.func71,Tryz.ntmps71;go_wp2_with fail;refine (hpk _).mono ?_;rintro e w' ⟨rfl,rfl⟩;go_wp2;go_end0;exact ⟨rfl,_,HI.out.setW (c':={k.c with alg:=1+x}) (part':=k.part) ((But.refl _ _).set (by simp) _) HW.out hok.out HI.out.isz,hR⟩
 ·have hpk:=fun wx=>pick_is v 13 wx hv (by omega) (by omega)
  obtain ⟨hx1,hx2⟩:=pickF_range v 13 (by omega);generalize pickF v 13=x at *;obtain ⟨j,rfl⟩:∃j:Nat,x=(j:Int):=⟨x.toNat,by omega⟩;obtain ⟨q1,q2,q3⟩:=primesL_ok j (by omega);have hpc:=fun wx=>primes_cell wx j (by omega)
  generalize primesL.getD j 0=pr at *;have c0:=hW.1 2 _ rfl;have f0:=hW.2 2 (by rw [wl_len];decide);have hplt:=hW.lt (by rw [wl_len];decide);have hok:Hid (Cfg.OK {k.c with slots:=(pr:Int)}):=⟨hc1,hc2,by simp only;omega,by simp only;omega,q3,hc6,hc7,hc8,hc9,hc10,hc11,hc12⟩;clear h hW q3;go_enter Tryz.func71,Tryz.ntmps71;go_wp2_with fail;refine (primes_is _).mono ?_;rintro e w' ⟨rfl,rfl⟩;have hpc:=hpc w;obtain ⟨wa,hwa⟩:∃wa,wa=w.alloc (.cells #[.int .i64 3,.int .i64 5,.int .i64 7,.int .i64 11,.int .i64 13,.int .i64 17,.int .i64 23,.int .i64 31,.int .i64 43,.int .i64 61,.int .i64 101,.int .i64 151,.int .i64 211] 3):=⟨_,rfl⟩;have hba:Bel w wa:=by rw [hwa];exact (Bel.refl w).step_alloc _
  rw [←hwa] at hpc ⊢;have c0':=hba.cell c0;have f0':=hba.frozen c0 f0;have HW:=Hid.mk (((HI.out.at_).later hba).set 2 (.int .i64 (pr:Int)));generalize w.heap.size=pz at *;clear hwa c0 f0;go_wp2_with fail;refine (hpk _).mono ?_;rintro e w' ⟨rfl,rfl⟩;go_wp2;go_end0;exact ⟨rfl,_,(HI.out.later hba).setW (c':={k.c with slots:=(pr:Int)}) (part':=k.part) ((But.refl _ _).set (by simp) _) HW.out hok.out HI.out.isz,hR⟩
 ·have hpk:=fun wx=>pick_is v 3 wx hv (by omega) (by omega)
  obtain ⟨hx1,hx2⟩:=pickF_range v 3 (by omega);generalize pickF v 3=x at *;have c0:=hW.1 3 _ rfl;have f0:=hW.2 3 (by rw [wl_len];decide);have hok:Hid (Cfg.OK {k.c with points:=1+x}):=⟨hc1,hc2,hc3,hc4,hc5,(by simp only;omega),(by simp only;omega),hc8,hc9,hc10,hc11,hc12⟩;have HW:=Hid.mk (hW.set 3 (.int .i64 (1+x)));clear h hW;go_enter Tryz.func71,Tryz.ntmps71;go_wp2_with fail;refine (hpk _).mono ?_;rintro e w' ⟨rfl,rfl⟩;go_wp2;go_end0;exact ⟨rfl,_,HI.out.setW (c':={k.c with points:=1+x}) (part':=k.part) ((But.refl _ _).set (by simp) _) HW.out hok.out HI.out.isz,hR⟩
 ·have hpk:=fun wx=>pick_is v 5 wx hv (by omega) (by omega)
  obtain ⟨hx1,hx2⟩:=pickF_range v 5 (by omega);generalize pickF v 5=x at *;have c0:=hW.1 4 _ rfl;have f0:=hW.2 4 (by rw [wl_len];decide);have hok:Hid (Cfg.OK {k.c with probes:=1+x}):=⟨hc1,hc2,hc3,hc4,hc5,hc6,hc7,(by simp only;omega),(by simp only;omega),hc10,hc11,hc12⟩;have HW:=Hid.mk (hW.set 4 (.int .i64 (1+x)));clear h hW;go_enter Tryz.func71,Tryz.ntmps71;go_wp2_with fail;refine (hpk _).mono ?_;rintro e w' ⟨rfl,rfl⟩;go_wp2;go_end0;exact ⟨rfl,_,HI.out.setW (c':={k.c with probes:=1+x}) (part':=k.part) ((But.refl _ _).set (by simp) _) HW.out hok.out HI.out.isz,hR⟩
 ·have hpk:=fun wx=>pick_is v 3 wx hv (by omega) (by omega)
  obtain ⟨hx1,hx2⟩:=pickF_range v 3 (by omega);generalize pickF v 3=x at *;have c0:=hW.1 6 _ rfl;have f0:=hW.2 6 (by rw [wl_len];decide);have hok:Hid (Cfg.OK {k.c with formats:=1+x}):=⟨hc1,hc2,hc3,hc4,hc5,hc6,hc7,hc8,hc9,hc10,(by simp only;omega),(by simp only;omega)⟩;have HW:=Hid.mk (hW.set 6 (.int .i64 (1+x)));clear h hW;go_enter Tryz.func71,Tryz.ntmps71;go_wp2_with fail;refine (hpk _).mono ?_;rintro e w' ⟨rfl,rfl⟩;go_wp2;go_end0;exact ⟨rfl,_,HI.out.setW (c':={k.c with formats:=1+x}) (part':=k.part) ((But.refl _ _).set (by simp) _) HW.out hok.out HI.out.isz,hR⟩
theorem texts_open' {w:World} {v:Value} {L:List ByteArray} (h:RowAt w v L.length (L.map Value.string)):∃ao cap,v= .slice ao L.length cap∧∀j (hj:j<L.length),∃g,ao=some ⟨g,0,none⟩∧w.cell? ⟨g,j,none⟩=some (.string L[j]):=by
 rcases h with ⟨h1,h2,_⟩|⟨g,cap,hv,hn,hg,hc⟩
 ·exact ⟨none,0,by rw [h1,h2],fun j hj=>by omega⟩
 ·exact ⟨_,cap,hv,fun j hj=>⟨g,rfl,hc j _ (by simp [hj])⟩⟩
theorem alike_is (X Y:List ByteArray) (vx vy:Value) (w:World) (hx:RowAt w vx X.length (X.map Value.string)) (hy:RowAt w vy Y.length (Y.map Value.string)) (hl:X.length≤65536) (hl2:Y.length≤65536):
  Calls Tryz.prog 133 #[vx,vy] w (RBool w (IsB (X=Y))):=by
 obtain ⟨ax,cx,rfl,hcx⟩:=texts_open' hx;obtain ⟨ay,cy,rfl,hcy⟩:=texts_open' hy;obtain ⟨Pr,hPr⟩:∃Pr:Prop,Pr=(X=Y):=⟨_,rfl⟩;rw [←hPr];have HPr:=Hid.mk hPr;clear hPr hx hy;by_cases hlen:X.length=Y.length
 rotate_left
 ·have hlb:((X.length:Int) !=(Y.length:Int))=true:=by rw [bne_iff_ne];omega
  clear hcx hcy;go_enter Tryz.func133,Tryz.ntmps133;go_wp2;go_ret;exact ⟨_,rfl,Bel.refl _,⟨fun h=>(by cases h),fun h=>(by rw [HPr.out] at h;exact absurd (congrArg List.length h) hlen)⟩⟩
 have hlb:((X.length:Int) !=(Y.length:Int))=false:=by rw [bne_eq_false_iff_eq];omega
 have HL:=Hid.mk hlen;clear hlen;go_enter Tryz.func133,Tryz.ntmps133;go_wp2;go_loopg [5] X.length (fun r n wr=>Bel w wr∧∃k:Nat,r=X.length - k∧k≤X.length∧n= .int .i64 k∧∀j (h1:j<X.length) (h2:j<Y.length),j<k→X[j]=Y[j])
 case atStart=>exact ⟨Bel.refl _,0,by omega,by omega,rfl,fun j _ _ h=>by omega⟩
 case round=>
  obtain ⟨hb,k,hr,hk,rfl,hall⟩:=hrel;have HA:=Hid.mk hall;clear hall;by_cases hlt:k<X.length
  ·have hlt2:k<Y.length:=by have:=HL.out;omega
   obtain ⟨gx,rfl,x0⟩:=hcx k hlt;obtain ⟨gy,rfl,y0⟩:=hcy k hlt2;have x0':=hb.cell x0;have y0':=hb.cell y0;clear hcx hcy x0 y0
   have hstep:Hid (X[k]=Y[k]→∀j (h1:j<X.length) (h2:j<Y.length),j<k+1→X[j]=Y[j]):=fun e j h1 h2 hj=>by
    by_cases he:j=k
    ·subst he;exact e
    ·exact HA.out j h1 h2 (by omega)
   have hno:Hid (X[k]≠Y[k]→¬Pr):=fun h hp=>by
    rw [HPr.out] at hp;subst hp;exact h rfl
   have HE:Hid (((X[k].toList==Y[k].toList)=true)↔X[k]=Y[k]):=str_eq;generalize X[k]=xk at *;generalize Y[k]=yk at *;cases heq:xk.toList==yk.toList
   ·have hbad:=Hid.mk (hno.out (fun e=>by rw [HE.out.2 e] at heq;cases heq));go_wp2_with fail;go_quiet (fail);go_wp2;go_ret;exact ⟨_,rfl,by (repeat (first|exact Bel.refl _|assumption|refine Bel.step_alloc ?_ _|refine Bel.step_drew ?_|refine Bel.step_drewN ?_ _|refine Bel.step_set ?_ (by simp <;>omega) _|refine Bel.trans ?_ (by assumption))),⟨fun h=>(by cases h),fun h=>absurd h hbad.out⟩⟩
   ·have hgood:=Hid.mk (hstep.out (HE.out.1 heq));go_wp2_with fail;go_quiet (fail);go_wp2;go_roundg (X.length - (k+1))
    case measure=>omega
    case rel=>exact ⟨by (repeat (first|exact Bel.refl _|assumption|refine Bel.step_alloc ?_ _|refine Bel.step_drew ?_|refine Bel.step_drewN ?_ _|refine Bel.step_set ?_ (by simp <;>omega) _|refine Bel.trans ?_ (by assumption))),k+1,rfl,by omega,by go_num,hgood.out⟩
  ·have hfin:Hid Pr:=by
    show Pr;rw [HPr.out];exact List.ext_getElem HL.out (fun j h1 h2=>HA.out j h1 h2 (by omega))
   clear hcx hcy
   go_wp2
   go_ret
   exact ⟨_,rfl,hb,⟨fun _=>hfin.out,fun _=>rfl⟩⟩
end Go.Proofs.YtpapdkhjdelfcabGreat
