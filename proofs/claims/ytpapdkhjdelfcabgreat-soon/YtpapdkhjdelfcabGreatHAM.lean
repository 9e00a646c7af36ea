import Derived.Test.YtpapdkhjdelfcabGreatHAL
set_option maxRecDepth 100000
set_option maxHeartbeats 4000000
namespace Go.Proofs.YtpapdkhjdelfcabGreat
open Go.RowKit
theorem pcells_one (B:List BK):∀u∈pcells B,u.oneCell'=true:=by
 intro u hu;simp only [pcells,List.mem_flatMap,List.mem_cons,List.not_mem_nil,or_false] at hu;obtain ⟨b,_,rfl|rfl⟩:=hu <;>rfl
theorem PoolAt.src {w:World} {v:Value} {L:List BK} (h:PoolAt w v L):SrcAt w v L.length (pcells L):=by
 rcases h with ⟨h1,h2,h3⟩|⟨g,cap,hv,hn,hg,hc⟩
 ·exact Or.inl ⟨h1,h2,h3⟩
 ·refine Or.inr ⟨_,_,hv,fun j u hu=>?_⟩;have hadd:(⟨g,0,none⟩:Addr).add j=⟨g,j,none⟩:=by unfold Addr.add;split <;>simp_all
  rw [hadd];exact hc j u hu
def tabV (c:Cfg) (vP vE:Value):Value:= .agg #[.int .i64 c.alg,.int .i64 c.slots,.int .i64 c.points,.int .i64 c.probes,.string c.key,.int .i64 c.formats,vP,vE]
def RMake (w:World) (c:Cfg) (B:List BK) (e:Ending) (w':World):Prop:=∃vP vE,e= .returned (tabV c vP vE)∧Bel w w'∧OwnB w.heap.size w' vP B∧OwnE w.heap.size w' vE (mkF c B)
theorem own_empty (w:World) (e:TypeId) (base n:Nat) (hn:n=w.heap.size) (hb:base≤n):(w.alloc (.cells #[] e)).ownsRow base e 2 (.slice (some ⟨n,0,none⟩) 0 0) 0 []:=by
 subst hn;exact World.ownsRow_lit w #[] 0 hb (by decide) rfl
theorem own_slice {w:World} {base:Nat} {e:TypeId} {size:Nat} {v:Value} {n:Nat} {xs:List Value} (h:w.ownsRow base e size v n xs):∃ao cap,v= .slice ao n cap:=by
 rcases h.2 with ⟨h1,h2⟩|⟨g,cap,cur,h1,_⟩
 ·exact ⟨none,0,by rw [h1,h2]⟩
 ·exact ⟨_,_,h1⟩
def TabC (p:Nat) (alg slots points probes:Int) (key:ByteArray) (formats:Int) (w:World):Prop:=
 w.cell? ⟨p,0,none⟩=some (.int .i64 alg)∧w.cell? ⟨p,1,none⟩=some (.int .i64 slots)∧w.cell? ⟨p,2,none⟩=some (.int .i64 points)∧w.cell? ⟨p,3,none⟩=some (.int .i64 probes)∧w.cell? ⟨p,4,none⟩=some (.string key)∧w.cell? ⟨p,5,none⟩=some (.int .i64 formats)
def Box8 (p:Nat) (a0 a1 a2 a3 a4 a5 a6 a7:Value) (w:World):Prop:=
 (w.cell? ⟨p,0,none⟩=some a0∧w.cell? ⟨p,1,none⟩=some a1∧w.cell? ⟨p,2,none⟩=some a2∧w.cell? ⟨p,3,none⟩=some a3∧w.cell? ⟨p,4,none⟩=some a4∧w.cell? ⟨p,5,none⟩=some a5∧w.cell? ⟨p,6,none⟩=some a6∧w.cell? ⟨p,7,none⟩=some a7)∧w.frozen? ⟨p,0,none⟩=false∧w.frozen? ⟨p,1,none⟩=false∧w.frozen? ⟨p,2,none⟩=false∧w.frozen? ⟨p,3,none⟩=false∧w.frozen? ⟨p,4,none⟩=false∧w.frozen? ⟨p,5,none⟩=false∧w.frozen? ⟨p,6,none⟩=false∧w.frozen? ⟨p,7,none⟩=false
theorem Box8.new (w:World) (a0 a1 a2 a3 a4 a5 a6 a7:Value) (t:TypeId):Box8 w.heap.size a0 a1 a2 a3 a4 a5 a6 a7 (w.alloc (.cells #[a0,a1,a2,a3,a4,a5,a6,a7] t)):=
 ⟨⟨by simp,by simp,by simp,by simp,by simp,by simp,by simp,by simp⟩,by simp,by simp,by simp,by simp,by simp,by simp,by simp,by simp⟩
theorem Box8.later {p:Nat} {a0 a1 a2 a3 a4 a5 a6 a7:Value} {w w2:World} (h:Box8 p a0 a1 a2 a3 a4 a5 a6 a7 w) (k:Bel w w2):Box8 p a0 a1 a2 a3 a4 a5 a6 a7 w2:=by
 obtain ⟨⟨h0,h1,h2,h3,h4,h5,h6,h7⟩,f0,f1,f2,f3,f4,f5,f6,f7⟩:=h;exact ⟨⟨k.cell h0,k.cell h1,k.cell h2,k.cell h3,k.cell h4,k.cell h5,k.cell h6,k.cell h7⟩,k.frozen h0 f0,k.frozen h1 f1,k.frozen h2 f2,k.frozen h3 f3,k.frozen h4 f4,k.frozen h5 f5,k.frozen h6 f6,k.frozen h7 f7⟩
theorem Box8.other {p:Nat} {a0 a1 a2 a3 a4 a5 a6 a7:Value} {w:World} (h:Box8 p a0 a1 a2 a3 a4 a5 a6 a7 w) {q:Addr} (u:Value) (hq:q.block≠p):Box8 p a0 a1 a2 a3 a4 a5 a6 a7 (w.setCell q u):=by
 obtain ⟨⟨h0,h1,h2,h3,h4,h5,h6,h7⟩,f0,f1,f2,f3,f4,f5,f6,f7⟩:=h;exact ⟨⟨by rw [set_other (Or.inl hq)];exact h0,by rw [set_other (Or.inl hq)];exact h1,by rw [set_other (Or.inl hq)];exact h2,by rw [set_other (Or.inl hq)];exact h3,by rw [set_other (Or.inl hq)];exact h4,by rw [set_other (Or.inl hq)];exact h5,by rw [set_other (Or.inl hq)];exact h6,by rw [set_other (Or.inl hq)];exact h7⟩,by rw [frozen_set];exact f0,by rw [frozen_set];exact f1,by rw [frozen_set];exact f2,by rw [frozen_set];exact f3,by rw [frozen_set];exact f4,by rw [frozen_set];exact f5,by rw [frozen_set];exact f6,by rw [frozen_set];exact f7⟩
theorem Box8.set6 {p:Nat} {a0 a1 a2 a3 a4 a5 a6 a7:Value} {w:World} (h:Box8 p a0 a1 a2 a3 a4 a5 a6 a7 w) (u:Value):Box8 p a0 a1 a2 a3 a4 a5 u a7 (w.setCell ⟨p,6,none⟩ u):=by
 obtain ⟨⟨h0,h1,h2,h3,h4,h5,h6,h7⟩,f0,f1,f2,f3,f4,f5,f6,f7⟩:=h;exact ⟨⟨by rw [set_other (by simp)];exact h0,by rw [set_other (by simp)];exact h1,by rw [set_other (by simp)];exact h2,by rw [set_other (by simp)];exact h3,by rw [set_other (by simp)];exact h4,by rw [set_other (by simp)];exact h5,set_same h6,by rw [set_other (by simp)];exact h7⟩,by rw [frozen_set];exact f0,by rw [frozen_set];exact f1,by rw [frozen_set];exact f2,by rw [frozen_set];exact f3,by rw [frozen_set];exact f4,by rw [frozen_set];exact f5,by rw [frozen_set];exact f6,by rw [frozen_set];exact f7⟩
theorem Box8.set7 {p:Nat} {a0 a1 a2 a3 a4 a5 a6 a7:Value} {w:World} (h:Box8 p a0 a1 a2 a3 a4 a5 a6 a7 w) (u:Value):Box8 p a0 a1 a2 a3 a4 a5 a6 u (w.setCell ⟨p,7,none⟩ u):=by
 obtain ⟨⟨h0,h1,h2,h3,h4,h5,h6,h7⟩,f0,f1,f2,f3,f4,f5,f6,f7⟩:=h;exact ⟨⟨by rw [set_other (by simp)];exact h0,by rw [set_other (by simp)];exact h1,by rw [set_other (by simp)];exact h2,by rw [set_other (by simp)];exact h3,by rw [set_other (by simp)];exact h4,by rw [set_other (by simp)];exact h5,by rw [set_other (by simp)];exact h6,set_same h7⟩,by rw [frozen_set];exact f0,by rw [frozen_set];exact f1,by rw [frozen_set];exact f2,by rw [frozen_set];exact f3,by rw [frozen_set];exact f4,by rw [frozen_set];exact f5,by rw [frozen_set];exact f6,by rw [frozen_set];exact f7⟩
theorem TabC.later {p:Nat} {alg slots points probes:Int} {key:ByteArray} {formats:Int} {w w2:World} (h:TabC p alg slots points probes key formats w) (k:Bel w w2):TabC p alg slots points probes key formats w2:=
 ⟨k.cell h.1,k.cell h.2.1,k.cell h.2.2.1,k.cell h.2.2.2.1,k.cell h.2.2.2.2.1,k.cell h.2.2.2.2.2⟩
theorem TabC.other {p:Nat} {alg slots points probes:Int} {key:ByteArray} {formats:Int} {w:World} (h:TabC p alg slots points probes key formats w) {q:Addr} (u:Value) (hq:q.block≠p):TabC p alg slots points probes key formats (w.setCell q u):=by
 obtain ⟨h0,h1,h2,h3,h4,h5⟩:=h;exact ⟨by rw [set_other (Or.inl hq)];exact h0,by rw [set_other (Or.inl hq)];exact h1,by rw [set_other (Or.inl hq)];exact h2,by rw [set_other (Or.inl hq)];exact h3,by rw [set_other (Or.inl hq)];exact h4,by rw [set_other (Or.inl hq)];exact h5⟩
def REach (w:World) (n:Int) (e:Ending) (w':World):Prop:=e= .returned (.int .i64 n)∧Bel w w'
theorem each_ring (slots points probes:Int) (key:ByteArray) (formats:Int) (w:World):
  Calls Tryz.prog 143 #[.agg #[.int .i64 2,.int .i64 slots,.int .i64 points,.int .i64 probes,.string key,.int .i64 formats]] w (REach w points):=by
 go_enter Tryz.func143,Tryz.ntmps143;go_wp2;go_ret;exact ⟨rfl,by (repeat (first|exact Bel.refl _|assumption|refine Bel.step_alloc ?_ _|refine Bel.step_drew ?_|refine Bel.step_drewN ?_ _|refine Bel.step_set ?_ (by simp <;>omega) _|refine Bel.trans ?_ (by assumption)))⟩
theorem each_one (alg slots points probes:Int) (key:ByteArray) (formats:Int) (w:World) (h:(alg==2)=false):
  Calls Tryz.prog 143 #[.agg #[.int .i64 alg,.int .i64 slots,.int .i64 points,.int .i64 probes,.string key,.int .i64 formats]] w (REach w 1):=by
 go_enter Tryz.func143,Tryz.ntmps143;go_wp2;go_ret;exact ⟨rfl,by (repeat (first|exact Bel.refl _|assumption|refine Bel.step_alloc ?_ _|refine Bel.step_drew ?_|refine Bel.step_drewN ?_ _|refine Bel.step_set ?_ (by simp <;>omega) _|refine Bel.trans ?_ (by assumption)))⟩
theorem make_is (c:Cfg) (B:List BK) (v:Value) (w:World) (hP:PoolAt w v B) (hB:PoolOK B) (hc:c.OK):
  Calls Tryz.prog 83 #[.agg c.cells,v] w (RMake w c B):=by
 obtain ⟨i0,hi,hz0,hz1,hz2⟩:=info_parts Tryz.infoBK;have hTot:=fun wx (h:Bel w wx)=>total_is B v wx (hP.later h) hB
 have hmag:=fun wx (h:Bel w wx)=>maglev_is c B v wx (hP.later h) hB hc
 have hren:=fun wx (h:Bel w wx)=>rendezvous_is c B v wx (hP.later h) hB hc
 have hk16:c.key.size=16:=hc.2.2.2.2.2.2.2.2.2.1;have hp1:1≤c.points:=hc.2.2.2.2.2.1;have hp2:c.points≤3:=hc.2.2.2.2.2.2.1;have hrng:=fun wx (h:Bel w wx)=>points_is c.key 114 c.points B v wx (hP.later h) hB hk16 (by omega) (by omega)
 have hprb:=fun wx (h:Bel w wx)=>points_is c.key 109 1 B v wx (hP.later h) hB hk16 (by omega) (by omega)
 have h8:=hB.1;obtain ⟨E,hE⟩:∃E,E=mkF c B:=⟨_,rfl⟩;unfold RMake;rw [←hE];rw [mkF] at hE;generalize wSum B=T at *;obtain ⟨E1,hE1⟩:∃E1,E1=slotE (maglevF c B):=⟨_,rfl⟩;obtain ⟨E2,hE2⟩:∃E2,E2=pointsF c.key 114 c.points B:=⟨_,rfl⟩;obtain ⟨E3,hE3⟩:∃E3,E3=slotE ((List.range c.slots.toNat).map (winnerF c.key B)):=⟨_,rfl⟩;obtain ⟨E4,hE4⟩:∃E4,E4=pointsF c.key 109 1 B:=⟨_,rfl⟩;rw [←hE1] at hmag;rw [←hE2] at hrng;rw [←hE3] at hren;rw [←hE4] at hprb;rw [show (maglevF c B).map (fun o=>((0:Int),o))=E1 from hE1.symm,←hE2,show (List.range c.slots.toNat).map (fun s=>((0:Int),winnerF c.key B s))=E3 from by rw [hE3,slotE,List.map_map];rfl,←hE4] at hE;clear hE1 hE2 hE3 hE4;have HE:=Hid.mk hE;have halg:=hc.1;have halg4:=hc.2.1;clear hE hc;obtain ⟨alg,slots,points,probes,key,formats⟩:=c;simp only [Cfg.cells,tabV] at *;go_enter Tryz.func83,Tryz.ntmps83;go_wp2_with (first|(at_builtin;refine wpList_append_src _ rfl _ _ 58 rfl (w.heap.size+3) 75 i0 (.agg #[.string ByteArray.empty,.int .i64 0]) 2 24 Tryz.underlying58 hi hz0 hz1 hz2 rfl (by decide) _ 0 [] rfl ?o1 _ B.length (pcells B) rfl ?o2 ?c1 ?c2 ?c3 ?c4 ?c5 ?_))
 case o1=>exact own_empty _ _ _ _ (by simp) (by omega)
 case o2=>exact (hP.later (by (repeat (first|exact Bel.refl _|assumption|refine Bel.step_alloc ?_ _|refine Bel.step_drew ?_|refine Bel.step_drewN ?_ _|refine Bel.step_set ?_ (by simp <;>omega) _|refine Bel.trans ?_ (by assumption))))).src
 case c1=>exact pcells_len B
 case c2=>exact pcells_one B
 case c3=>unfold maxLen;omega
 case c4=>omega
 case c5=>simp
 intro vP w1 hown1 hgrow1;obtain ⟨wa,hwa⟩:∃wa,wa=w.alloc (.cells #[.int .i64 alg,.int .i64 slots,.int .i64 points,.int .i64 probes,.string key,.int .i64 formats] 34):=⟨_,rfl⟩;obtain ⟨wr,hwr⟩:∃wr,wr=wa.alloc (.cells #[.int .i64 0,.int .i64 0,.int .i64 0,.int .i64 0,.string {data:=#[]},.int .i64 0,.slice none 0 0,.slice none 0 0] 66):=⟨_,rfl⟩;obtain ⟨wm,hwm⟩:∃wm,wm=wr.alloc (.cells #[.int .i64 alg,.int .i64 slots,.int .i64 points,.int .i64 probes,.string key,.int .i64 formats,.slice none 0 0,.slice none 0 0] 66):=⟨_,rfl⟩;have sa:wa.heap.size=w.heap.size+1:=by rw [hwa];simp
 have sr:wr.heap.size=w.heap.size+1+1:=by rw [hwr];simp [sa]
 have sm:wm.heap.size=w.heap.size+1+1+1:=by rw [hwm];simp [sr]
 have ba:Bel w wa:=by rw [hwa];exact (Bel.refl w).step_alloc _
 have br:Bel wa wr:=by rw [hwr];exact (Bel.refl _).step_alloc _
 have bm:Bel wr wm:=by rw [hwm];exact (Bel.refl _).step_alloc _
 have hwb:Bel w wm:=ba.trans (br.trans bm)
 have hb1:Bel wm w1:=by
  rw [hwm,hwr,hwa];refine Bel.grown (Bel.step_alloc (Bel.refl _) _) hgrow1 (fun g hg=>?_);simp [Value.ownBlock] at hg;simp;omega
 have bp:Bel wa w1:=br.trans (bm.trans hb1);have bq:Bel wr w1:=bm.trans hb1
 have cfgA:TabC w.heap.size alg slots points probes key formats wa:=by
  rw [hwa];exact ⟨by simp,by simp,by simp,by simp,by simp,by simp⟩
 have hR1:Box8 (w.heap.size+1) (.int .i64 0) (.int .i64 0) (.int .i64 0) (.int .i64 0) (.string {data:=#[]}) (.int .i64 0) (.slice none 0 0) (.slice none 0 0) w1:=by
  have:=Box8.new wa (.int .i64 0) (.int .i64 0) (.int .i64 0) (.int .i64 0) (.string {data:=#[]}) (.int .i64 0) (.slice none 0 0) (.slice none 0 0) 66;rw [←hwr,sa] at this;exact this.later bq
 have hT1:Box8 (w.heap.size+1+1) (.int .i64 alg) (.int .i64 slots) (.int .i64 points) (.int .i64 probes) (.string key) (.int .i64 formats) (.slice none 0 0) (.slice none 0 0) w1:=by
  have:=Box8.new wr (.int .i64 alg) (.int .i64 slots) (.int .i64 points) (.int .i64 probes) (.string key) (.int .i64 formats) (.slice none 0 0) (.slice none 0 0) 66;rw [←hwm,sr] at this;exact this.later hb1
 have hC1:=cfgA.later bp;have hown:OwnB (w.heap.size+3) w1 vP B:=by unfold OwnB;simpa using hown1
 have hbw1:Bel w w1:=hwb.trans hb1;have hsz1:=hb1.size;clear hown1 hgrow1 hwa hwr hwm sa sr ba br bm hwb hb1 bp bq cfgA;obtain ⟨aP,capP,rfl⟩:=own_slice hown;obtain ⟨⟨t0,t1,t2,t3,t4,t5,t6,t7⟩,g0,g1,g2,g3,g4,g5,g6,g7⟩:=id hT1;have hT2:=hT1.set6 (.slice aP B.length capP);have hR2:=hR1.other (q:=⟨w.heap.size+1+1,6,none⟩) (.slice aP B.length capP) (by simp);have hC2:=hC1.other (q:=⟨w.heap.size+1+1,6,none⟩) (.slice aP B.length capP) (by simp only;omega);have hown2:OwnB (w.heap.size+3) _ _ B:=ownsRow_setCell_below hown (a:=⟨w.heap.size+1+1,6,none⟩) (by simp) (.slice aP B.length capP);have hbw2:=hbw1.step_set (p:=⟨w.heap.size+1+1,6,none⟩) (by simp;omega) (.slice aP B.length capP);go_wp2_with fail;refine (hTot _ hbw2).mono ?_;rintro e w3 ⟨rfl,hb3⟩;have hT3:=hT2.later hb3;have hR3:=hR2.later hb3;have hC3:=hC2.later hb3;have hown3:=Hid.mk (own_later hown2 hb3);have hbw3:=hbw2.trans hb3;have hs3:=hbw3.size;clear hT1 hR1 hC1 hT2 hR2 hC2 hown hown2 hbw1 hbw2 hb3 hsz1 t0 t1 t2 t3 t4 t5 t6 t7 g0 g1 g2 g3 g4 g5 g6 g7;obtain ⟨⟨t0,t1,t2,t3,t4,t5,t6,t7⟩,g0,g1,g2,g3,g4,g5,g6,g7⟩:=id hT3;obtain ⟨⟨r0,r1,r2,r3,r4,r5,r6,r7⟩,f0,f1,f2,f3,f4,f5,f6,f7⟩:=id hR3;obtain ⟨c0,c1,c2,c3,c4,c5⟩:=id hC3;by_cases hT0:T<1
 ·have HE2:Hid (E=[]):=by show E=[];rw [HE.out,if_pos hT0]
  clear HE hmag hren hrng hprb hTot hT3 hR3 hC3;go_wp2;refine bodyPost_ret (v:= .agg #[.int .i64 alg,.int .i64 slots,.int .i64 points,.int .i64 probes,.string key,.int .i64 formats,.slice aP B.length capP,.slice none 0 0]) (by simp [results,Tryz.results83,go_sem, *]) rfl ⟨_,_,rfl,?_,?_,?_⟩
  ·exact (((((((hbw3.step_set (by simp) _).step_set (by simp) _).step_set (by simp) _).step_set (by simp) _).step_set (by simp) _).step_set (by simp) _).step_set (by simp) _).step_set (by simp) _
  ·exact World.ownsRow.mono (ownsRow_setCell_below (ownsRow_setCell_below (ownsRow_setCell_below (ownsRow_setCell_below (ownsRow_setCell_below (ownsRow_setCell_below (ownsRow_setCell_below (ownsRow_setCell_below hown3.out (by simp) _) (by simp) _) (by simp) _) (by simp) _) (by simp) _) (by simp) _) (by simp) _) (by simp) _) (by omega)
  ·rw [HE2.out];exact World.ownsRow_nil _ _ _ _
 ·rw [if_neg hT0] at HE;have hs33:w.heap.size+1+1<w3.heap.size:=World.block_lt_of_cell? w3 _ t0;rcases (show alg=1∨alg=2∨alg=3∨alg=4 by omega) with rfl|rfl|rfl|rfl
  ·have HE2:Hid (E=E1):=by show E=E1;rw [HE.out];simp
   have hcl:=hmag _ hbw3 (by omega);clear HE hmag hren hrng hprb hTot;go_wp2_with fail;refine hcl.mono ?_;rintro e w4 ⟨vE,rfl,hb4,hE4⟩;obtain ⟨aE,capE,rfl⟩:=own_slice hE4;have hT4:=hT3.later hb4;have hR4:=hR3.later hb4;have hown4:=own_later hown3.out hb4;have hbw4:=hbw3.trans hb4;have hown5:=Hid.mk (ownsRow_setCell_below hown4 (a:=⟨w.heap.size+1+1,7,none⟩) (by simp) (.slice aE E1.length capE));have hE5:=Hid.mk (ownsRow_setCell_below hE4 (a:=⟨w.heap.size+1+1,7,none⟩) (by simp only;omega) (.slice aE E1.length capE));have hbw5:=hbw4.step_set (p:=⟨w.heap.size+1+1,7,none⟩) (by simp only;omega) (.slice aE E1.length capE);clear t0 t1 t2 t3 t4 t5 t6 t7 g0 g1 g2 g3 g4 g5 g6 g7 r0 r1 r2 r3 r4 r5 r6 r7 f0 f1 f2 f3 f4 f5 f6 f7 hT3 hR3 hC3 c0 c1 c2 c3 c4 c5 hown3 hbw3;obtain ⟨⟨t0,t1,t2,t3,t4,t5,t6,t7⟩,g0,g1,g2,g3,g4,g5,g6,g7⟩:=hT4;obtain ⟨⟨r0,r1,r2,r3,r4,r5,r6,r7⟩,f0,f1,f2,f3,f4,f5,f6,f7⟩:=hR4;have hs4:=hb4.size;clear hown4 hbw4 hE4 hb4 hcl;go_wp2;refine bodyPost_ret (v:= .agg #[.int .i64 1,.int .i64 slots,.int .i64 points,.int .i64 probes,.string key,.int .i64 formats,.slice aP B.length capP,.slice aE E1.length capE]) (by simp [results,Tryz.results83,go_sem, *]) rfl ⟨_,_,rfl,?_,?_,?_⟩
   ·exact (((((((hbw5.step_set (by simp) _).step_set (by simp) _).step_set (by simp) _).step_set (by simp) _).step_set (by simp) _).step_set (by simp) _).step_set (by simp) _).step_set (by simp) _
   ·exact World.ownsRow.mono ((ownsRow_setCell_below (ownsRow_setCell_below (ownsRow_setCell_below (ownsRow_setCell_below (ownsRow_setCell_below (ownsRow_setCell_below (ownsRow_setCell_below (ownsRow_setCell_below hown5.out (by simp) _) (by simp) _) (by simp) _) (by simp) _) (by simp) _) (by simp) _) (by simp) _) (by simp) _)) (by omega)
   ·rw [HE2.out];exact World.ownsRow.mono (ownsRow_setCell_below (ownsRow_setCell_below (ownsRow_setCell_below (ownsRow_setCell_below (ownsRow_setCell_below (ownsRow_setCell_below (ownsRow_setCell_below (ownsRow_setCell_below hE5.out (by simp only;omega) _) (by simp only;omega) _) (by simp only;omega) _) (by simp only;omega) _) (by simp only;omega) _) (by simp only;omega) _) (by simp only;omega) _) (by simp only;omega) _) (by omega)
  ·have HE2:Hid (E=E2):=by show E=E2;rw [HE.out];simp
   have hea:=fun wx=>each_ring slots points probes key formats wx
   clear HE hmag hren hprb hTot;go_wp2_with fail
   go_region_with (first
     | (go_at_call 143
        refine (hea _).mono ?_
        rintro e w3b ⟨rfl, hb3x⟩
        have hb3 : Bel w3 w3b := by first | exact hb3x | exact (Bel.step_drew (Bel.refl w3)).trans hb3x
        have c4b := hb3.cell c4
        have hbw3b := hbw3.trans hb3
        have hT3b := hT3.later hb3
        have hR3b := hR3.later hb3
        have hown3b := Hid.mk (own_later hown3.out hb3)
        have hs33b : w.heap.size + 1 + 1 < w3b.heap.size := Nat.lt_of_lt_of_le hs33 hb3.size
        clear hb3x hea)
     | (go_at_call 142
        refine (hrng _ (by first | exact hbw3b | exact hbw3b.step_drew)).mono ?_
        rintro e w4 ⟨vE, rfl, hb4x, hE4x⟩
        have hb4 : Bel w3b w4 := by first | exact hb4x | exact (Bel.step_drew (Bel.refl w3b)).trans hb4x
        have hE4 := World.ownsRow.mono hE4x (base' := w.heap.size + 1 + 1 + 1) (by first | omega | (simp; omega))
        obtain ⟨aE, capE, rfl⟩ := own_slice hE4
        have hT4 := hT3b.later hb4
        have hR4 := hR3b.later hb4
        have hown4 := own_later hown3b.out hb4
        have hbw4 := hbw3b.trans hb4
        have hown5 := Hid.mk (ownsRow_setCell_below hown4 (a := ⟨w.heap.size + 1 + 1, 7, none⟩) (by simp) (.slice aE E2.length capE))
        have hE5 := Hid.mk (ownsRow_setCell_below hE4 (a := ⟨w.heap.size + 1 + 1, 7, none⟩) (by simp only; omega) (.slice aE E2.length capE))
        have hbw5 := hbw4.step_set (p := ⟨w.heap.size + 1 + 1, 7, none⟩) (by simp only; omega) (.slice aE E2.length capE)
        clear t0 t1 t2 t3 t4 t5 t6 t7 g0 g1 g2 g3 g4 g5 g6 g7 r0 r1 r2 r3 r4 r5 r6 r7 f0 f1 f2 f3 f4 f5 f6 f7 hT3 hR3 hC3 c0 c1 c2 c3 c4 c5 hown3 hbw3 hT3b hR3b hown3b hbw3b c4b
        obtain ⟨⟨t0, t1, t2, t3, t4, t5, t6, t7⟩, g0, g1, g2, g3, g4, g5, g6, g7⟩ := hT4
        obtain ⟨⟨r0, r1, r2, r3, r4, r5, r6, r7⟩, f0, f1, f2, f3, f4, f5, f6, f7⟩ := hR4
        have hs4 := hb4.size
        clear hown4 hbw4 hE4 hE4x hb4 hb4x hrng))
   all_goals
    go_wp2;refine bodyPost_ret (v:= .agg #[.int .i64 2,.int .i64 slots,.int .i64 points,.int .i64 probes,.string key,.int .i64 formats,.slice aP B.length capP,.slice aE E2.length capE]) (by simp [results,Tryz.results83,go_sem, *]) rfl ⟨_,_,rfl,?_,?_,?_⟩
    ·exact (((((((hbw5.step_set (by simp) _).step_set (by simp) _).step_set (by simp) _).step_set (by simp) _).step_set (by simp) _).step_set (by simp) _).step_set (by simp) _).step_set (by simp) _
    ·exact World.ownsRow.mono ((ownsRow_setCell_below (ownsRow_setCell_below (ownsRow_setCell_below (ownsRow_setCell_below (ownsRow_setCell_below (ownsRow_setCell_below (ownsRow_setCell_below (ownsRow_setCell_below hown5.out (by simp) _) (by simp) _) (by simp) _) (by simp) _) (by simp) _) (by simp) _) (by simp) _) (by simp) _)) (by omega)
    ·rw [HE2.out];exact World.ownsRow.mono (ownsRow_setCell_below (ownsRow_setCell_below (ownsRow_setCell_below (ownsRow_setCell_below (ownsRow_setCell_below (ownsRow_setCell_below (ownsRow_setCell_below (ownsRow_setCell_below hE5.out (by simp only;omega) _) (by simp only;omega) _) (by simp only;omega) _) (by simp only;omega) _) (by simp only;omega) _) (by simp only;omega) _) (by simp only;omega) _) (by simp only;omega) _) (by omega)
  ·have HE2:Hid (E=E3):=by show E=E3;rw [HE.out];simp
   have hcl:=hren _ hbw3;clear HE hmag hren hrng hprb hTot;go_wp2_with fail;refine hcl.mono ?_;rintro e w4 ⟨vE,rfl,hb4,hE4⟩;obtain ⟨aE,capE,rfl⟩:=own_slice hE4;have hT4:=hT3.later hb4;have hR4:=hR3.later hb4;have hown4:=own_later hown3.out hb4;have hbw4:=hbw3.trans hb4;have hown5:=Hid.mk (ownsRow_setCell_below hown4 (a:=⟨w.heap.size+1+1,7,none⟩) (by simp) (.slice aE E3.length capE));have hE5:=Hid.mk (ownsRow_setCell_below hE4 (a:=⟨w.heap.size+1+1,7,none⟩) (by simp only;omega) (.slice aE E3.length capE));have hbw5:=hbw4.step_set (p:=⟨w.heap.size+1+1,7,none⟩) (by simp only;omega) (.slice aE E3.length capE);clear t0 t1 t2 t3 t4 t5 t6 t7 g0 g1 g2 g3 g4 g5 g6 g7 r0 r1 r2 r3 r4 r5 r6 r7 f0 f1 f2 f3 f4 f5 f6 f7 hT3 hR3 hC3 c0 c1 c2 c3 c4 c5 hown3 hbw3;obtain ⟨⟨t0,t1,t2,t3,t4,t5,t6,t7⟩,g0,g1,g2,g3,g4,g5,g6,g7⟩:=hT4;obtain ⟨⟨r0,r1,r2,r3,r4,r5,r6,r7⟩,f0,f1,f2,f3,f4,f5,f6,f7⟩:=hR4;have hs4:=hb4.size;clear hown4 hbw4 hE4 hb4 hcl;go_wp2;refine bodyPost_ret (v:= .agg #[.int .i64 3,.int .i64 slots,.int .i64 points,.int .i64 probes,.string key,.int .i64 formats,.slice aP B.length capP,.slice aE E3.length capE]) (by simp [results,Tryz.results83,go_sem, *]) rfl ⟨_,_,rfl,?_,?_,?_⟩
   ·exact (((((((hbw5.step_set (by simp) _).step_set (by simp) _).step_set (by simp) _).step_set (by simp) _).step_set (by simp) _).step_set (by simp) _).step_set (by simp) _).step_set (by simp) _
   ·exact World.ownsRow.mono ((ownsRow_setCell_below (ownsRow_setCell_below (ownsRow_setCell_below (ownsRow_setCell_below (ownsRow_setCell_below (ownsRow_setCell_below (ownsRow_setCell_below (ownsRow_setCell_below hown5.out (by simp) _) (by simp) _) (by simp) _) (by simp) _) (by simp) _) (by simp) _) (by simp) _) (by simp) _)) (by omega)
   ·rw [HE2.out];exact World.ownsRow.mono (ownsRow_setCell_below (ownsRow_setCell_below (ownsRow_setCell_below (ownsRow_setCell_below (ownsRow_setCell_below (ownsRow_setCell_below (ownsRow_setCell_below (ownsRow_setCell_below hE5.out (by simp only;omega) _) (by simp only;omega) _) (by simp only;omega) _) (by simp only;omega) _) (by simp only;omega) _) (by simp only;omega) _) (by simp only;omega) _) (by simp only;omega) _) (by omega)
  ·have HE2:Hid (E=E4):=by show E=E4;rw [HE.out];simp
   have hea:=fun wx=>each_one 4 slots points probes key formats wx (by decide)
   clear HE hmag hren hrng hTot;go_wp2_with fail
   go_region_with (first
     | (go_at_call 143
        refine (hea _).mono ?_
        rintro e w3b ⟨rfl, hb3x⟩
        have hb3 : Bel w3 w3b := by first | exact hb3x | exact (Bel.step_drew (Bel.refl w3)).trans hb3x
        have c4b := hb3.cell c4
        have hbw3b := hbw3.trans hb3
        have hT3b := hT3.later hb3
        have hR3b := hR3.later hb3
        have hown3b := Hid.mk (own_later hown3.out hb3)
        have hs33b : w.heap.size + 1 + 1 < w3b.heap.size := Nat.lt_of_lt_of_le hs33 hb3.size
        clear hb3x hea)
     | (go_at_call 142
        refine (hprb _ (by first | exact hbw3b | exact hbw3b.step_drew)).mono ?_
        rintro e w4 ⟨vE, rfl, hb4x, hE4x⟩
        have hb4 : Bel w3b w4 := by first | exact hb4x | exact (Bel.step_drew (Bel.refl w3b)).trans hb4x
        have hE4 := World.ownsRow.mono hE4x (base' := w.heap.size + 1 + 1 + 1) (by first | omega | (simp; omega))
        obtain ⟨aE, capE, rfl⟩ := own_slice hE4
        have hT4 := hT3b.later hb4
        have hR4 := hR3b.later hb4
        have hown4 := own_later hown3b.out hb4
        have hbw4 := hbw3b.trans hb4
        have hown5 := Hid.mk (ownsRow_setCell_below hown4 (a := ⟨w.heap.size + 1 + 1, 7, none⟩) (by simp) (.slice aE E4.length capE))
        have hE5 := Hid.mk (ownsRow_setCell_below hE4 (a := ⟨w.heap.size + 1 + 1, 7, none⟩) (by simp only; omega) (.slice aE E4.length capE))
        have hbw5 := hbw4.step_set (p := ⟨w.heap.size + 1 + 1, 7, none⟩) (by simp only; omega) (.slice aE E4.length capE)
        clear t0 t1 t2 t3 t4 t5 t6 t7 g0 g1 g2 g3 g4 g5 g6 g7 r0 r1 r2 r3 r4 r5 r6 r7 f0 f1 f2 f3 f4 f5 f6 f7 hT3 hR3 hC3 c0 c1 c2 c3 c4 c5 hown3 hbw3 hT3b hR3b hown3b hbw3b c4b
        obtain ⟨⟨t0, t1, t2, t3, t4, t5, t6, t7⟩, g0, g1, g2, g3, g4, g5, g6, g7⟩ := hT4
        obtain ⟨⟨r0, r1, r2, r3, r4, r5, r6, r7⟩, f0, f1, f2, f3, f4, f5, f6, f7⟩ := hR4
        have hs4 := hb4.size
        clear hown4 hbw4 hE4 hE4x hb4 hb4x hprb))
   all_goals
    go_wp2;refine bodyPost_ret (v:= .agg #[.int .i64 4,.int .i64 slots,.int .i64 points,.int .i64 probes,.string key,.int .i64 formats,.slice aP B.length capP,.slice aE E4.length capE]) (by simp [results,Tryz.results83,go_sem, *]) rfl ⟨_,_,rfl,?_,?_,?_⟩
    ·exact (((((((hbw5.step_set (by simp) _).step_set (by simp) _).step_set (by simp) _).step_set (by simp) _).step_set (by simp) _).step_set (by simp) _).step_set (by simp) _).step_set (by simp) _
    ·exact World.ownsRow.mono ((ownsRow_setCell_below (ownsRow_setCell_below (ownsRow_setCell_below (ownsRow_setCell_below (ownsRow_setCell_below (ownsRow_setCell_below (ownsRow_setCell_below (ownsRow_setCell_below hown5.out (by simp) _) (by simp) _) (by simp) _) (by simp) _) (by simp) _) (by simp) _) (by simp) _) (by simp) _)) (by omega)
    ·rw [HE2.out];exact World.ownsRow.mono (ownsRow_setCell_below (ownsRow_setCell_below (ownsRow_setCell_below (ownsRow_setCell_below (ownsRow_setCell_below (ownsRow_setCell_below (ownsRow_setCell_below (ownsRow_setCell_below hE5.out (by simp only;omega) _) (by simp only;omega) _) (by simp only;omega) _) (by simp only;omega) _) (by simp only;omega) _) (by simp only;omega) _) (by simp only;omega) _) (by simp only;omega) _) (by omega)
end Go.Proofs.YtpapdkhjdelfcabGreat
