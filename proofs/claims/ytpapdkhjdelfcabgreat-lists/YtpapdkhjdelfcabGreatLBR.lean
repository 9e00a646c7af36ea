import Derived.Test.YtpapdkhjdelfcabGreatLBQ
import Derived.Deep.RegionLaw
import Derived.Laws.CopyOwn
namespace Go.Proofs.YtpapdkhjdelfcabGreat
open Go.RowKit
set_option maxRecDepth 100000
set_option maxHeartbeats 4000000
theorem Tryz.infoPair:(Tryz.prog.info? 77).map (fun i=>(i.zero,i.size,i.bytes))=some (some (.pointer none),1,8):=by kernel_rfl
theorem Cz.new (w:World) (cs:Array Value) (t:TypeId) (hc:cs.size≤100):Cz w.heap.size cs.toList (w.alloc (.cells cs t)):=by
 have h:=World.ownsRow_lit (base:=w.heap.size) (e:=t) w cs cs.size (jH _) (by unfold maxLen;omega) (Nat.mul_one _).symm;refine ⟨fun o u hu=>?_,fun o ho=>World.ownsRow.frozenAt h o⟩;have hl:=(List.getElem?_eq_some_iff.1 hu).1;exact (World.ownsRow.cellAt h o (by simpa using hl)).trans hu
theorem AG.new0 {M:List Nat} {q:Nat} {c:Ac} {w:World} (h:Bt (.slice none 0 0) M q c [] 0 w):AG M q ⟨c,[],0,[],[]⟩ w:=
 ⟨_,h,World.ownsRow_nil _ _ _ _,rfl,by simp,by simp,by simp [AT.own,Bh],by simp⟩
def PS (base p n:Nat) (vl:Value) (xs:List Value) (c:Ac) (w:World) (e:Ending) (w':World):Prop:=e= .returned (.bool true)∧∃(q a g cap:Nat) (w1 w2:World),Aa w w1∧w.heap.size≤q∧q<w1.heap.size∧w.heap.size≤a∧a<w1.heap.size∧a≠q∧
 Cz a [.pointer (some ⟨q,0,none⟩),.int .i64 c.alg,.int .i64 c.slots,.int .i64 c.points,.int .i64 c.probes,.string c.key,.int .i64 c.formats,.slice none 0 0,.pointer none,.slice none 0 0] w1∧(∀M:List Nat,q∈M→Bt (.slice none 0 0) M q c [] 0 w1)∧
 Ab vl.ownBlock.toList w1 w2∧w'=w2.setCell ⟨p,6,none⟩ (sl g (n+1) cap)∧w2.ownsRow base 77 1 (sl g (n+1) cap) (n+1) (xs++[.pointer (some ⟨a,0,none⟩)])∧(vl.ownBlock=some g∨w1.heap.size≤g)
theorem Q4 (base p n:Nat) (vl:Value) (xs:List Value) (c:Ac) (w:World) (hc:c.OK) (hfit:c.Fit) (c0:w.cell? ⟨p,0,none⟩=some (.int .i64 c.alg)) (c1:w.cell? ⟨p,1,none⟩=some (.int .i64 c.slots)) (c2:w.cell? ⟨p,2,none⟩=some (.int .i64 c.points)) (c3:w.cell? ⟨p,3,none⟩=some (.int .i64 c.probes)) (c4:w.cell? ⟨p,4,none⟩=some (.string c.key)) (c5:w.cell? ⟨p,5,none⟩=some (.int .i64 c.formats))
  (c6:w.cell? ⟨p,6,none⟩=some vl) (f6:w.frozen? ⟨p,6,none⟩=false) (hrow:w.ownsRow base 77 1 vl n xs) (hn:n≤200000) (hb:base≤w.heap.size) (hvp:vl.ownBlock≠some p):
  Calls Tryz.prog 45 #[.pointer (some ⟨p,0,none⟩)] w (PS base p n vl xs c w):=by
 obtain ⟨i0,hi,hz0,hz1,hz2⟩:=info_parts Tryz.infoPair;have hnw:=fun wx=>PG c wx hc
 have hmy:=fun wx=>Mb c wx hfit
 have HR:=jp hrow;have HC:=jp hc;have hplt:=jF c6;obtain ⟨alg,slots,points,probes,key,formats⟩:=c;simp only [Ac.cells] at *;clear hrow hc hfit;go_enter Tryz.func45,Tryz.ntmps45;go_wp2_with fail;refine (hnw _).mono ?_;rintro e w1 ⟨q,rfl,hb1,hq1,hq2,hS⟩;have HS:=jp hS;have k0:=hb1.cell c0;have k1:=hb1.cell c1;have k2:=hb1.cell c2;have k3:=hb1.cell c3;have k4:=hb1.cell c4;have k5:=hb1.cell c5;have k6:=hb1.cell c6;have y6:=hb1.frozen c6 f6;clear hS hnw;go_wp2_with fail;refine (hmy _).mono ?_;rintro e w2 ⟨x,rfl,hb2,hx⟩;obtain rfl:x=true:=hx.2 HC.out;have m0:=hb2.cell k0;have m1:=hb2.cell k1;have m2:=hb2.cell k2;have m3:=hb2.cell k3;have m4:=hb2.cell k4;have m5:=hb2.cell k5;have m6:=hb2.cell k6;have n6:=hb2.frozen k6 y6;have hb12:Aa w w2:=hb1.trans hb2;have HR2:=jp (BG HR.out hb12);have hsz1:=hb1.size;have hsz2:=hb2.size;clear hmy hx k0 k1 k2 k3 k4 k5 k6 y6 c0 c1 c2 c3 c4 c5 c6 f6 HR;have hpv:p∉vl.ownBlock.toList:=fun h=>hvp (by simpa using h)
 have hp2:p<w2.heap.size:=jF m6
 have HX:∀(wd:World),Aa ((w2.alloc (.cells #[.pointer (some ⟨q,0,none⟩),.int .i64 alg,.int .i64 slots,.int .i64 points,.int .i64 probes,.string key,.int .i64 formats,.slice none 0 0,.pointer none,.slice none 0 0] 82)).alloc (.cells #[.pointer (some ⟨w2.heap.size,0,none⟩)] 77)) wd→∀g cap w3,Ab vl.ownBlock.toList wd w3→w3.ownsRow base 77 1 (.slice (some ⟨g,0,none⟩) (n+1) cap) (n+1) (xs++[.pointer (some ⟨w2.heap.size,0,none⟩)])→(vl.ownBlock=some g∨g=wd.heap.size)→
   Hid (PS base p n vl xs ⟨alg,slots,points,probes,key,formats⟩ w (.returned (.bool true)) (w3.setCell ⟨p,6,none⟩ (.slice (some ⟨g,0,none⟩) (n+1) cap))):=fun wd bd g cap w3 b3 h3 hat=>by
  have bA:=Aa.step_alloc (Aa.step_alloc (jD w2) (.cells #[.pointer (some ⟨q,0,none⟩),.int .i64 alg,.int .i64 slots,.int .i64 points,.int .i64 probes,.string key,.int .i64 formats,.slice none 0 0,.pointer none,.slice none 0 0] 82)) (.cells #[.pointer (some ⟨w2.heap.size,0,none⟩)] 77);have hsz:=bd.size;simp only [World.alloc,Array.size_push] at hsz;refine ⟨rfl,q,w2.heap.size,g,cap,wd,w3,hb12.trans (bA.trans bd),hq1,by omega,by omega,by omega,by omega,((Cz.new w2 _ _ (by simp)).later (Aa.step_alloc (jD _) _)).later bd,fun M hM=>(HS.out M hM).later (hb2.trans (bA.trans bd)),b3,rfl,h3,hat.imp id (fun e=>by omega)⟩
 go_wp2_with fail
 go_region_law
  ((refine step_append_lies _ rfl (.tmp 37) (.tmp 45) 43 rfl base 77 i0 (.pointer none) 1 8 Tryz.underlying43 hi hz0 hz1 hz2 rfl (by decide) vl n xs (by simp [Act.eval]) (World.ownsRow.alloc (World.ownsRow.alloc HR2.out _) _) ⟨w2.heap.size + 1, 0, none⟩ 1 1 [.pointer (some ⟨w2.heap.size, 0, none⟩)] (by simp [Act.eval]) rfl (Fz _ _ _ _ (by simp)) (by intro u hu; simp at hu; subst hu; rfl) (by decide) (by unfold maxLen; omega) (by omega) (by simp; omega) _ rfl ?_
    intro g cap w3 hown3 hgrow3 hat3 hlt3
    have b3 := IW hgrow3
    have b23 : Ab vl.ownBlock.toList w2 w3 := by (repeat (first | exact Ab.refl _ _ | assumption | refine Ab.drew ?_ | refine Ab.drewN ?_ _ | refine Ab.alloc ?_ _ | refine Ab.set ?_ (by simp) _ | refine Ab.trans ?_ (by assumption) | refine Ab.step ?_ (by assumption)))
    have x6 := b23.cell m6 hpv
    have y6 := b23.frozen m6 hpv n6
    have H3 := jp hown3
    have HAT := jp hat3
    clear hown3 hgrow3 hat3))
 all_goals
  have HR:=HX _ (by solve_by_elim [jA,jB,jC,jD,jE]) _ _ _ b3 H3.out HAT.out;clear HX H3 HAT;go_wp2;go_ret;exact HR.out
theorem Q5 (p:Nat) (c:Ac) (w:World) (hc:¬c.OK) (hfit:c.Fit) (c0:w.cell? ⟨p,0,none⟩=some (.int .i64 c.alg)) (c1:w.cell? ⟨p,1,none⟩=some (.int .i64 c.slots)) (c2:w.cell? ⟨p,2,none⟩=some (.int .i64 c.points)) (c3:w.cell? ⟨p,3,none⟩=some (.int .i64 c.probes)) (c4:w.cell? ⟨p,4,none⟩=some (.string c.key)) (c5:w.cell? ⟨p,5,none⟩=some (.int .i64 c.formats)):
  Calls Tryz.prog 45 #[.pointer (some ⟨p,0,none⟩)] w fun e w'=>e= .returned (.bool true)∧Aa w w':=by
 have hnw:=fun wx=>WY c wx hc
 have hmy:=fun wx=>Mb c wx hfit
 have HC:=jp hc;obtain ⟨alg,slots,points,probes,key,formats⟩:=c;simp only [Ac.cells] at *;clear hc hfit;go_enter Tryz.func45,Tryz.ntmps45;go_wp2_with fail;refine (hnw _).mono ?_;rintro e w1 ⟨rfl,hb1⟩;have k0:=hb1.cell c0;have k1:=hb1.cell c1;have k2:=hb1.cell c2;have k3:=hb1.cell c3;have k4:=hb1.cell c4;have k5:=hb1.cell c5;clear hnw c0 c1 c2 c3 c4 c5;go_wp2_with fail;refine (hmy _).mono ?_;rintro e w2 ⟨x,rfl,hb2,hx⟩;have hbw:Aa w w2:=hb1.trans hb2;cases x
 ·clear hmy hx;go_wp2;go_ret;exact ⟨rfl,hbw⟩
 ·exact absurd (hx.1 rfl) HC.out
def Yj (W0:Aw) (p s:Nat) (e:Ending) (w':World):Prop:=e= .returned (.bool true)∧∃x,Ao W0 s x w'∧x.p=p
theorem Y9 (W0:Aw) (s:Nat) (x:WG) (w:World) (h:Ao W0 s x w) (hs:s≤150000):Calls Tryz.prog 45 #[.pointer (some ⟨x.p,0,none⟩)] w (Yj W0 x.p (s+1)):=by
 by_cases hc:x.c.OK
 ·have hvp:x.vl.ownBlock≠some x.p:=fun e=>by
   have a1:1≤x.vl.ownBlock.toList.count x.p:=Ak.1 (by simp [e]);have a2:=WG.count x x.p;have a3:=DK h.2.2.1 x.p;have a4:1≤[x.p].count x.p:=Ak.1 (by simp);omega
  refine (Q4 W0.heap.size x.p x.prs.length x.vl _ x.c w hc h.2.2.2.2.2.1 (h.1.1 0 _ rfl) (h.1.1 1 _ rfl) (h.1.1 2 _ rfl) (h.1.1 3 _ rfl) (h.1.1 4 _ rfl) (h.1.1 5 _ rfl) (h.1.1 6 _ rfl) (h.1.2 6 (by simp [WG.cells])) h.2.2.2.2.2.2.1 (by have:=h.2.2.2.2.2.2.2.2.2.2.2.1.1;omega) h.2.1.size hvp).mono ?_
  rintro e w' ⟨rfl,q,a,g,cap,w1,w2,b1,hq1,hq2,ha1,ha2,haq,hL,hS,hb,rfl,hrow,hg⟩
  refine ⟨rfl,_,h.pair b1 ⟨a,q,x.c,[],0,.slice none 0 0,.pointer none,.slice none 0 0,[],[],[]⟩ ⟨hL,AG.new0 (hS _ (by simp [Ah.blocks])),Or.inl ⟨rfl,rfl,rfl⟩,AH.nil,hc,⟨by simp,by simp,fun _=>rfl⟩,Or.inl ⟨rfl,rfl⟩,World.ownsRow_nil _ _ _ _,by simp,fun y hy=>by cases hy⟩ (by simp [Ah.blocks,Value.ownBlock,haq,Bh]) (fun j hj=>?_) (by simp) hb hrow hg,rfl⟩
  simp [Ah.blocks,Value.ownBlock,Bh] at hj
  rcases hj with rfl|rfl
  ·exact ⟨ha1,ha2⟩
  ·exact ⟨hq1,hq2⟩
 ·refine (Q5 x.p x.c w hc h.2.2.2.2.2.1 (h.1.1 0 _ rfl) (h.1.1 1 _ rfl) (h.1.1 2 _ rfl) (h.1.1 3 _ rfl) (h.1.1 4 _ rfl) (h.1.1 5 _ rfl)).mono ?_;rintro e w' ⟨rfl,b⟩;exact ⟨rfl,x,(h.later b).up (by omega),rfl⟩
theorem Tryz.infoStrs:(Tryz.prog.info? 40).map (fun i=>(i.zero,i.size,i.bytes))=some (some (.slice none 0 0),1,24):=by kernel_rfl
theorem Sn (wx:World) (ao:Option Addr) (L cap:Nat):
  (Instr.slice 40 (.slice ao L cap) none (some (.int .i64 cap)) none).run Tryz.prog wx= .ok (.slice ao cap cap) wx:=by
 rw [run_slice_h (P:=Tryz.prog) wx 40 ao L cap (by kernel_rfl) .i64 _ (by omega) (by omega)];have hs:(sizeOf (Tryz.prog.elem 40)).run Tryz.prog wx= .ok 1 wx:=by kernel_rfl
 rw [hs];have hm:ao.map (·.add 0)=ao:=by cases ao <;>rfl
 simp only [Result.andThen,sliced,Int.toNat_natCast,Nat.zero_mul,hm,ite_self,Nat.sub_zero]
theorem XV {w:World} {base g n:Nat} {cur:Array Value} {e:TypeId} {T:List ByteArray} (hg:w.heap[g]?=some (.cells cur e (0,0))) (hb:base≤g) (hn:T.length=n) (hm:n≤maxLen):
  (w.setRow g (T.map Value.string).toArray).ownsRow base e 1 (sl g n n) n (T.map Value.string):=by
 refine ⟨by simp [hn],Or.inr ⟨g,n,(T.map Value.string).toArray,rfl,hb,setRow_heap w g _ _ e _ hg,jH _,hm,by simp [hn],?_⟩⟩;rw [jR (by simp [hn])]
theorem YK {cur:Array Value} {T:List ByteArray} (hc:cur.size=T.length):cur.toList.take 0++T.map Value.string++cur.toList.drop (0+(T.map Value.string).length)=T.map Value.string:=by
 rw [List.drop_of_length_le (by simp;omega)];simp
def TC (base p n:Nat) (va vb:Value) (xs ys L:List Value) (g1:Nat) (T:List ByteArray) (w:World) (e:Ending) (w':World):Prop:=e= .returned (.tuple #[])∧∃(g2 ga ca gb cb:Nat) (w1:World),Aa w w1∧w.heap.size≤g2∧g2<w1.heap.size∧w1.ownsRow base 9 1 (sl g2 T.length T.length) T.length (T.map Value.string)∧
 Ab (p::(va.ownBlock.toList++vb.ownBlock.toList)) w1 w'∧Cz p ((L.set 8 (sl ga (n+1) ca)).set 9 (sl gb (n+1) cb)) w'∧
 w'.ownsRow base 40 1 (sl ga (n+1) ca) (n+1) (xs++[sl g1 T.length T.length])∧w'.ownsRow base 40 1 (sl gb (n+1) cb) (n+1) (ys++[sl g2 T.length T.length])∧
 (va.ownBlock=some ga∨w1.heap.size≤ga)∧(vb.ownBlock=some gb∨w1.heap.size≤gb)∧ga≠gb
theorem Re (base p n:Nat) (va vb:Value) (xs ys L:List Value) (g1:Nat) (T:List ByteArray) (w:World) (hL:Cz p L w) (hL8:L[8]?=some va) (hL9:L[9]?=some vb) (hra:w.ownsRow base 40 1 va n xs) (hrb:w.ownsRow base 40 1 vb n ys) (hn:n≤200000) (hb:base≤w.heap.size)
  (hpa:va.ownBlock≠some p) (hpb:vb.ownBlock≠some p) (hab:∀g,va.ownBlock=some g→vb.ownBlock≠some g) (hT:w.ownsRow base 9 1 (sl g1 T.length T.length) T.length (T.map Value.string)) (hT1:T.length≤65536):
  Calls Tryz.prog 100 #[.pointer (some ⟨p,0,none⟩),sl g1 T.length T.length] w (TC base p n va vb xs ys L g1 T w):=by
 obtain ⟨i0,hi,hz0,hz1,hz2⟩:=info_parts Tryz.infoStr;obtain ⟨i1,hj,hy0,hy1,hy2⟩:=info_parts Tryz.infoStrs;have hsl:=fun wx=>Sn wx (some ⟨g1,0,none⟩) T.length T.length
 have c8:=hL.1 8 va hL8;have c9:=hL.1 9 vb hL9;have f8:=hL.2 8 (List.getElem?_eq_some_iff.1 hL8).1;have f9:=hL.2 9 (List.getElem?_eq_some_iff.1 hL9).1;have hplt:=jF c8;have HL:=jp hL;have HA:=jp hra;have HB:=jp hrb;have HT:=jp hT;have HAB:=jp hab;clear hL hra hrb hT hab hL8 hL9;unfold sl at *;go_enter Tryz.func100,Tryz.ntmps100;go_wp2_with (first|(at_make;refine wpList_make_full _ rfl _ _ 40 rfl base 9 i0 (.string ByteArray.empty) 1 Tryz.underlying40 hi hz0 hz1 _ _ _ _ T.length rfl rfl ?b0 ?b1 ?b2 ?b3 ?b4 ?_))
 case b0=>rfl
 case b1=>first|rfl|omega
 case b2=>first|omega|(rw [hz2];omega)
 case b3=>first|(unfold maxLen;omega)|exact hb
 try (case b4=>exact hb)
 intro w1 hown1 hgrow1;have hb1:Aa w w1:=(jD _).grown hgrow1 (fun g hg=>by cases hg)
 obtain ⟨cur,hcur,hcs⟩:∃cur:Array Value,w1.heap[w.heap.size]?=some (.cells cur 9 (0,0))∧cur.size=T.length:=by
  rcases hown1.2 with ⟨h',_⟩|⟨g',cap',cur,h',_,hg,_,_,hs,_⟩
  ·simp at h'
  ·simp only [Value.slice.injEq,Option.some.injEq,Addr.mk.injEq,and_true,true_and] at h';obtain ⟨rfl,rfl⟩:=h';exact ⟨cur,hg,by simpa using hs⟩
 have hT2:Hid (∀j v,(T.map Value.string)[j]?=some v→w1.cell? ((⟨g1,0,none⟩:Addr).add j)=some v):=fun j v hv=>by
  have hadd:(⟨g1,0,none⟩:Addr).add j=⟨g1,j,none⟩:=by unfold Addr.add;split <;>simp_all
  rw [hadd];have hj:j<T.length:=by have:=(List.getElem?_eq_some_iff.1 hv).1;simpa using this
  exact (hb1.cell ((World.ownsRow.cellAt HT.out j (by omega)).trans hv))
 clear hown1 hgrow1 hsl;have hstr:(Tryz.prog.info? 9).map (·.size)=some 1:=by rw [hi];simp [hz1]
 have hrun:=run_copy_row (P:=Tryz.prog) w1 40 40 3 9 w.heap.size 0 T.length T.length ⟨g1,0,none⟩ T.length T.length cur 9 (T.map Value.string) Tryz.underlying40 hstr hcur (by simp) hT2.out (by simp;omega) (by intro v hv;obtain ⟨t, -,rfl⟩:=List.mem_map.1 hv;rfl);rw [YK hcs] at hrun;have HC:=jp (XV (base:=base) (T:=T) hcur hb rfl (by unfold maxLen;omega));have hb2:Aa w (w1.setRow w.heap.size (T.map Value.string).toArray):=Aa.of_below (below_setRow hb1.below (jH _) _) (jH _);generalize w1.setRow w.heap.size (T.map Value.string).toArray=w2 at *;have x8:=hb2.cell c8;have x9:=hb2.cell c9;have y8:=hb2.frozen c8 f8;have y9:=hb2.frozen c9 f9;have HL2:=jp (HL.out.later hb2);have HA2:=jp (BG HA.out hb2);have HB2:=jp (BG HB.out hb2);have hsz2:=hb2.size;have hp2:p<w2.heap.size:=jF x8;have hg2l:w.heap.size<w2.heap.size:=(World.ownsRow.lt HC.out _ rfl).2;clear hcur hcs hb1 hT2 c8 c9 f8 f9 HL HA HB;go_wp2_with (first|(at_builtin;refine wpList_append_lies _ rfl _ _ 44 rfl base 40 i1 (.slice none 0 0) 1 24 Tryz.underlying44 hj hy0 hy1 hy2 rfl (by decide) _ n xs rfl ?p1 ⟨w2.heap.size,0,none⟩ 1 1 [.slice (some ⟨g1,0,none⟩) T.length T.length] rfl rfl ?d1 ?d2 (by decide) ?d3 ?d4 ?d5 _ rfl ?_))
 case p1=>exact World.ownsRow.alloc HA2.out _
 try (case d1=>exact Fz _ _ _ _ (by simp))
 case d2=>first|rfl|(intro u hu;simp at hu;subst hu;rfl)
 case d3=>unfold maxLen;omega
 case d4=>omega
 case d5=>first|omega|(simp;omega)
 intro ga ca w3 hown3 hgrow3 hat3 hlt3;have b3:Ab va.ownBlock.toList w2 w3:=(Ab.of_bel (Aa.step_alloc (jD w2) _)).trans (IW hgrow3);have hpA:p∉va.ownBlock.toList:=fun h=>hpa (by simpa using h)
 have hpB:p∉vb.ownBlock.toList:=fun h=>hpb (by simpa using h)
 have z8:=b3.cell x8 hpA;have z9:=b3.cell x9 hpA;have u8:=b3.frozen x8 hpA y8;have u9:=b3.frozen x9 hpA y9;have hvbw:∀g,vb.ownBlock=some g→g<w2.heap.size:=fun g hg=>(World.ownsRow.lt HB2.out g hg).2
 have hgap:ga≠p:=by
  rcases hat3 with e|e
  ·exact fun e2=>hpa (by rw [e,e2])
  ·omega
 have hgavb:vb.ownBlock≠some ga:=by
  rcases hat3 with e|e
  ·exact HAB.out ga e
  ·intro e2;have:=hvbw ga e2;omega
 have c4:Ab [p] w3 (w3.setCell ⟨p,8,none⟩ (.slice (some ⟨ga,0,none⟩) (n+1) ca)):=(Ab.refl _ _).set (by simp) _;have HB4:=jp (AY (AY HB2.out b3 (fun g hg e=>HAB.out g (by simpa using e) hg)) c4 (fun g hg e=>hpb (by rw [hg,jP.1 e])))
 have HA4 := jp (AY hown3 c4 (fun g hg e => hgap (by
   have : ga = g := by simpa [Value.ownBlock] using hg
   rw [this, jP.1 e])))
 have HL4:=jp ((HL2.out.but b3 hpA).set 8 (.slice (some ⟨ga,0,none⟩) (n+1) ca));have B24:Hid (Ab (p::(va.ownBlock.toList++vb.ownBlock.toList)) w2 (w3.setCell ⟨p,8,none⟩ (.slice (some ⟨ga,0,none⟩) (n+1) ca))):=(b3.mono (fun k hk=>Or.inl (jW _ (jg _ hk)))).put (Or.inl (by simp)) _;have HGA:Hid (va.ownBlock=some ga∨w2.heap.size≤ga):=hat3.imp id (fun e=>by omega);have hs3:=b3.size;have hgal:ga<w3.heap.size:=hlt3;have hvb3:∀g,vb.ownBlock=some g→g<w3.heap.size:=fun g hg=>by have:=hvbw g hg;omega
 clear hown3 hgrow3 hat3 hlt3 HA2 HB2 HL2;go_wp2_with (first|(at_builtin;refine wpList_append_lies _ rfl _ _ 44 rfl base 40 i1 (.slice none 0 0) 1 24 Tryz.underlying44 hj hy0 hy1 hy2 rfl (by decide) _ n ys rfl ?p1 ⟨w3.heap.size,0,none⟩ 1 1 [.slice (some ⟨w.heap.size,0,none⟩) T.length T.length] rfl rfl ?d1 ?d2 (by decide) ?d3 ?d4 ?d5 _ rfl ?_))
 case p1=>exact World.ownsRow.alloc HB4.out _
 try (case d1=>exact Fz _ _ _ _ (by simp))
 case d2=>first|rfl|(intro u hu;simp at hu;subst hu;rfl)
 case d3=>unfold maxLen;omega
 case d4=>omega
 case d5=>first|omega|(simp;omega)
 intro gb cb w5 hown5 hgrow5 hat5 hlt5;have b5:Ab vb.ownBlock.toList (w3.setCell ⟨p,8,none⟩ (.slice (some ⟨ga,0,none⟩) (n+1) ca)) w5:=(Ab.of_bel (Aa.step_alloc (jD _) _)).trans (IW hgrow5);have t9:=b5.cell ((Ad (by simp)).trans z9) hpB;have v9:=b5.frozen ((Ad (by simp)).trans z9) hpB (by rw [Ag];exact u9);have hgb:Hid (vb.ownBlock=some gb∨w3.heap.size≤gb):=hat5.imp id (fun e=>by first|omega|(rw [e];simp));have H5:=jp hown5;clear hown5 hgrow5 hat5;go_wp2;go_end0
 have hgbp:gb≠p:=by
  rcases hgb.out with e|e
  ·exact fun e2=>hpb (by rw [e,e2])
  ·omega
 have c6:Ab [p] w5 (w5.setCell ⟨p,9,none⟩ (.slice (some ⟨gb,0,none⟩) (n+1) cb)):=(Ab.refl _ _).set (by simp) _
 refine ⟨rfl, w.heap.size, ga, ca, gb, cb, w2, hb2, jH _, hg2l, HC.out, (B24.out.trans (b5.mono (fun k hk => Or.inl (jW _ (jU _ hk))))).put (Or.inl (by simp)) _, (HL4.out.but b5 hpB).set 9 _, AY (AY HA4.out b5 (fun g hg e => hgavb (by
     have : ga = g := by simpa [sl, Value.ownBlock] using hg
     rw [this]; simpa using e))) c6 (fun g hg e => hgap (by
     have : ga = g := by simpa [sl, Value.ownBlock] using hg
     rw [this, jP.1 e])), AY H5.out c6 (fun g hg e => hgbp (by
     have : gb = g := by simpa [sl, Value.ownBlock] using hg
     rw [this, jP.1 e])), HGA.out, hgb.out.imp id (fun e => by omega), ?_⟩
 rcases hgb.out with e|e
 ·exact fun e2=>hgavb (by rw [e,e2])
 ·omega
theorem Yp (p:Nat) (w:World):Calls Tryz.prog 100 #[.pointer (some ⟨p,0,none⟩),.slice none 0 0] w fun e w'=>e= .returned (.tuple #[])∧w=w':=by
 go_enter Tryz.func100,Tryz.ntmps100;go_wp2;go_end0;exact ⟨rfl,rfl⟩
def Mp (W0:Aw) (s:Nat) (x:WG) (v:Value) (T:List ByteArray) (e:Ending) (w':World):Prop:=e= .returned (.tuple #[])∧∃x',Ao W0 (s+1) x' w'∧x'.p=x.p∧x'.prs=x.prs∧Ap w' v T.length (T.map Value.string)
theorem Ru (W0:Aw) (s:Nat) (x:WG) (g1:Nat) (T:List ByteArray) (w0 w:World) (h:Ao W0 s x w0) (hbel:Aa w0 w) (hT:FC w0.heap.size w (sl g1 T.length T.length) T) (hT1:T.length≤65536) (hs:s≤150000):
  Calls Tryz.prog 100 #[.pointer (some ⟨x.p,0,none⟩),sl g1 T.length T.length] w (Mp W0 s x (sl g1 T.length T.length) T):=by
 have hw:=h.later hbel;have h2:=h.2.1.size;have hc:=DK h.2.2.1;have he:=WG.count x;have hTw:w.ownsRow W0.heap.size 9 1 (sl g1 T.length T.length) T.length (T.map Value.string):=World.ownsRow.mono hT h2;have hpc:1≤[x.p].count x.p:=Ak.1 (by simp);refine (Re W0.heap.size x.p x.lss.length x.vls x.vlw (x.lss.map fun l=>sl l.g1 l.T.length l.T.length) (x.lss.map fun l=>sl l.g2 l.T.length l.T.length) x.cells g1 T w hw.1 rfl rfl hw.2.2.2.2.2.2.2.2.2.1 hw.2.2.2.2.2.2.2.2.2.2.1 (by have:=h.2.2.2.2.2.2.2.2.2.2.2.1.2.2;omega) hw.2.1.size (fun e=>?_) (fun e=>?_) (fun g e e2=>?_) hTw hT1).mono ?_
 ·have a1:1≤x.vls.ownBlock.toList.count x.p:=Ak.1 (by simp [e]);have a2:=he x.p;have a3:=hc x.p;omega
 ·have a1:1≤x.vlw.ownBlock.toList.count x.p:=Ak.1 (by simp [e]);have a2:=he x.p;have a3:=hc x.p;omega
 ·have a1:1≤x.vls.ownBlock.toList.count g:=Ak.1 (by simp [e]);have a4:1≤x.vlw.ownBlock.toList.count g:=Ak.1 (by simp [e2]);have a2:=he g;have a3:=hc g;omega
 rintro e w' ⟨rfl,g2,ga,ca,gb,cb,w1,b1,hg2,hg2l,hrow2,hb,hL,hra,hrb,hga,hgb,hab⟩;have hg1:=World.ownsRow.lt hT g1 rfl;have hb1:=b1.size;have hbs:=hbel.size;have hl:GA.At W0.heap.size ⟨g1,g2,T⟩ w1:=⟨BG hTw b1,hrow2,hT1⟩
 have hk := h.keep (hbel.trans b1) ⟨g1, g2, T⟩ hl (by show g1 ≠ g2; omega) (fun j hj => by
   simp only [ja, List.not_mem_nil, or_false] at hj
   rcases hj with rfl | rfl
   · exact ⟨hg1.1, by omega⟩
   · exact ⟨by omega, hg2l⟩) hb hL hra hrb hga hgb hab
 refine ⟨rfl,_,hk,rfl,rfl,?_⟩;have hlast:=hk.2.2.2.2.2.2.2.2.2.2.2.2.1 ⟨g1,g2,T⟩ (by simp);exact Ap.of_owns hlast.1
end Go.Proofs.YtpapdkhjdelfcabGreat
