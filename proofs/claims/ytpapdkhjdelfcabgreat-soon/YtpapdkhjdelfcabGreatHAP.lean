import Derived.Test.YtpapdkhjdelfcabGreatHAO
import Derived.Test.YtpapdkhjdelfcabGreatHAM
import Derived.Test.YtpapdkhjdelfcabGreatHAH
set_option maxRecDepth 100000
set_option maxHeartbeats 4000000
namespace Go.Proofs.YtpapdkhjdelfcabGreat
open Go.RowKit
variable {K:Nat→Option Obj}
def wpF (alg:Int):Nat:=if hasP alg then 64 else 0
def woF (f alg:Int) (n:Nat):Nat:=if f=2 then plb n else if hasP alg then 8 else 16
theorem plb_le (n:Nat):plb n≤3:=by unfold plb blen;split <;>(try split)<;>omega
theorem woF_le (f alg:Int) (n:Nat):woF f alg n≤16:=by have:=plb_le n;unfold woF;split <;>(try split)<;>omega
theorem wpF_le (alg:Int):wpF alg≤64:=by unfold wpF;split <;>omega
def widV (f alg:Int) (n:Nat):Value:= .agg #[.int .i64 (wpF alg:Int),.int .i64 (woF f alg n:Int)]
def RWid (w:World) (v:Value) (e:Ending) (w':World):Prop:=e= .returned v∧Bel w w'
theorem widths_is (f alg:Int) (n:Nat) (w:World) (hn:n≤8):Calls Tryz.prog 192 #[.int .i64 f,.int .i64 alg,.int .i64 (n:Int)] w (RWid w (widV f alg n)):=by
 have hhp:=fun wx=>hasp_is alg wx
 have hpb:=fun wx=>placeb_is n wx hn
 unfold widV wpF woF;generalize plb n=x at *;cases hP:hasP alg
 ·rw [hP] at hhp;by_cases hf:f=2
  ·subst hf;go_enter Tryz.func192,Tryz.ntmps192;go_wp2_with fail;refine (hhp _).mono ?_;rintro e w1 ⟨rfl,hb1⟩;have B0:=((BoxC.new w 219 #[.int .i64 0,.int .i64 0]).alloc (.cells #[.int .i64 0,.int .i64 16] 219)).bel hb1;have B1:=(BoxC.new (w.alloc (.cells #[.int .i64 0,.int .i64 0] 219)) 219 #[.int .i64 0,.int .i64 16]).bel hb1;rw [show (w.alloc (.cells #[.int .i64 0,.int .i64 0] 219)).heap.size=w.heap.size+1 by simp] at B1;have HB:=Hid.mk ((((Bel.refl w).step_alloc _).step_alloc _).trans hb1);clear hb1;have B2:=B1;have C0:=B0;have HC:=HB;clear B0 B1 HB;replace B2:=Hid.mk B2;replace C0:=Hid.mk C0;go_wp2_with fail;refine (hpb _).mono ?_;rintro e w2 ⟨rfl,hb2⟩;have D0:=C0.out.bel hb2;have D1:=B2.out.bel hb2;have HD:=Hid.mk (HC.out.trans hb2);have r0:=D0.cell 0 rfl;have f0:=D0.free 0;have r1:=D0.cell 1 rfl;have f1:=D0.free 1;have q0:=D1.cell 0 rfl;have h0:=D1.free 0;have q1:=D1.cell 1 rfl;have h1:=D1.free 1;clear D0 D1 hb2 HC B2 C0;go_wp2;refine bodyPost_ret (by simp [results,Tryz.results192,go_sem,r0,r1];rfl) rfl ⟨by simp,?_⟩;have hD:=HD.out;(repeat (first|assumption|refine Bel.step_set ?_ (by simp) _))
  ·have hf2:(f==2)=false:=by simp [hf]
   go_enter Tryz.func192,Tryz.ntmps192;go_wp2_with fail;refine (hhp _).mono ?_;rintro e w1 ⟨rfl,hb1⟩;have B0:=((BoxC.new w 219 #[.int .i64 0,.int .i64 0]).alloc (.cells #[.int .i64 0,.int .i64 16] 219)).bel hb1;have B1:=(BoxC.new (w.alloc (.cells #[.int .i64 0,.int .i64 0] 219)) 219 #[.int .i64 0,.int .i64 16]).bel hb1;rw [show (w.alloc (.cells #[.int .i64 0,.int .i64 0] 219)).heap.size=w.heap.size+1 by simp] at B1;have HB:=Hid.mk ((((Bel.refl w).step_alloc _).step_alloc _).trans hb1);clear hb1;have B2:=B1;have C0:=B0;have HC:=HB;clear B0 B1 HB;have r0:=C0.cell 0 rfl;have f0:=C0.free 0;have r1:=C0.cell 1 rfl;have f1:=C0.free 1;have q0:=B2.cell 0 rfl;have h0:=B2.free 0;have q1:=B2.cell 1 rfl;have h1:=B2.free 1;have HD:=HC;clear HC B2 C0;go_wp2;refine bodyPost_ret (by simp [results,Tryz.results192,go_sem,r0,r1];rfl) rfl ⟨by simp,?_⟩;have hD:=HD.out;(repeat (first|assumption|refine Bel.step_set ?_ (by simp) _))
 ·rw [hP] at hhp;by_cases hf:f=2
  ·subst hf;go_enter Tryz.func192,Tryz.ntmps192;go_wp2_with fail;refine (hhp _).mono ?_;rintro e w1 ⟨rfl,hb1⟩;have B0:=((BoxC.new w 219 #[.int .i64 0,.int .i64 0]).alloc (.cells #[.int .i64 0,.int .i64 16] 219)).bel hb1;have B1:=(BoxC.new (w.alloc (.cells #[.int .i64 0,.int .i64 0] 219)) 219 #[.int .i64 0,.int .i64 16]).bel hb1;rw [show (w.alloc (.cells #[.int .i64 0,.int .i64 0] 219)).heap.size=w.heap.size+1 by simp] at B1;have HB:=Hid.mk ((((Bel.refl w).step_alloc _).step_alloc _).trans hb1);clear hb1;have x0:=B1.cell 0 rfl;have y0:=B1.free 0;have x1:=B1.cell 1 rfl;have y1:=B1.free 1;have B2:=(B1.set 0 (.int .i64 64) (cs':=#[.int .i64 64,.int .i64 16]) rfl).set 1 (.int .i64 8) (cs':=#[.int .i64 64,.int .i64 8]) rfl;have C0:=(B0.setO (a:=⟨w.heap.size+1,0,none⟩) (by simp) (.int .i64 64)).setO (a:=⟨w.heap.size+1,1,none⟩) (by simp) (.int .i64 8);have HC:=Hid.mk ((HB.out.step_set (p:=⟨w.heap.size+1,0,none⟩) (by simp) (.int .i64 64)).step_set (p:=⟨w.heap.size+1,1,none⟩) (by simp) (.int .i64 8));clear B1 HB;clear B0;replace B2:=Hid.mk B2;replace C0:=Hid.mk C0;go_wp2_with fail;refine (hpb _).mono ?_;rintro e w2 ⟨rfl,hb2⟩;have D0:=C0.out.bel hb2;have D1:=B2.out.bel hb2;have HD:=Hid.mk (HC.out.trans hb2);have r0:=D0.cell 0 rfl;have f0:=D0.free 0;have r1:=D0.cell 1 rfl;have f1:=D0.free 1;have q0:=D1.cell 0 rfl;have h0:=D1.free 0;have q1:=D1.cell 1 rfl;have h1:=D1.free 1;clear D0 D1 hb2 HC B2 C0 x0 x1 y0 y1;go_wp2;refine bodyPost_ret (by simp [results,Tryz.results192,go_sem,r0,r1];rfl) rfl ⟨by simp,?_⟩;have hD:=HD.out;(repeat (first|assumption|refine Bel.step_set ?_ (by simp) _))
  ·have hf2:(f==2)=false:=by simp [hf]
   go_enter Tryz.func192,Tryz.ntmps192;go_wp2_with fail;refine (hhp _).mono ?_;rintro e w1 ⟨rfl,hb1⟩;have B0:=((BoxC.new w 219 #[.int .i64 0,.int .i64 0]).alloc (.cells #[.int .i64 0,.int .i64 16] 219)).bel hb1;have B1:=(BoxC.new (w.alloc (.cells #[.int .i64 0,.int .i64 0] 219)) 219 #[.int .i64 0,.int .i64 16]).bel hb1;rw [show (w.alloc (.cells #[.int .i64 0,.int .i64 0] 219)).heap.size=w.heap.size+1 by simp] at B1;have HB:=Hid.mk ((((Bel.refl w).step_alloc _).step_alloc _).trans hb1);clear hb1;have x0:=B1.cell 0 rfl;have y0:=B1.free 0;have x1:=B1.cell 1 rfl;have y1:=B1.free 1;have B2:=(B1.set 0 (.int .i64 64) (cs':=#[.int .i64 64,.int .i64 16]) rfl).set 1 (.int .i64 8) (cs':=#[.int .i64 64,.int .i64 8]) rfl;have C0:=(B0.setO (a:=⟨w.heap.size+1,0,none⟩) (by simp) (.int .i64 64)).setO (a:=⟨w.heap.size+1,1,none⟩) (by simp) (.int .i64 8);have HC:=Hid.mk ((HB.out.step_set (p:=⟨w.heap.size+1,0,none⟩) (by simp) (.int .i64 64)).step_set (p:=⟨w.heap.size+1,1,none⟩) (by simp) (.int .i64 8));clear B1 HB;have r0:=B0.cell 0 rfl;have f0:=B0.free 0;have r1:=B0.cell 1 rfl;have f1:=B0.free 1;clear B0;have HD:=HC;clear HC B2 C0;go_wp2;refine bodyPost_ret (by simp [results,Tryz.results192,go_sem,r0,r1];rfl) rfl ⟨by simp,?_⟩;have hD:=HD.out;(repeat (first|assumption|refine Bel.step_set ?_ (by simp) _))
end Go.Proofs.YtpapdkhjdelfcabGreat
namespace Go.Proofs.YtpapdkhjdelfcabGreat
open Go.RowKit
variable {K:Nat→Option Obj}
def EOff (w:World) (v:Value) (l:List EI):Prop:=∃ao cap,v= .slice ao l.length cap∧∀j (hj:j<l.length),∃g o,ao=some ⟨g,o,none⟩∧w.cell? ⟨g,o+j * 2,none⟩=some (.int .u64 l[j].1)∧w.cell? ⟨g,o+j * 2+1,none⟩=some (.int .i64 l[j].2)
theorem EOff.of {w:World} {v:Value} {l:List EI} (h:EIAt w v l):EOff w v l:=by
 obtain ⟨ao,cap,rfl,hc⟩:=h.open;refine ⟨ao,cap,rfl,fun j hj=>?_⟩;obtain ⟨g,h1,h2,h3⟩:=hc j hj;exact ⟨g,0,h1,by simpa using h2,by simpa using h3⟩
theorem EOff.later {a w:World} {v:Value} {l:List EI} (h:EOff a v l) (k:Bel a w):EOff w v l:=by
 obtain ⟨ao,cap,rfl,hc⟩:=h;refine ⟨ao,cap,rfl,fun j hj=>?_⟩;obtain ⟨g,o,h1,h2,h3⟩:=hc j hj;exact ⟨g,o,h1,k.cell h2,k.cell h3⟩
def EntOK (e:EI):Prop:=0≤e.1∧e.1<18446744073709551616∧ -9223372036854775808≤e.2∧e.2≤9223372036854775807
def u64N (x:Int):Nat:=(x % 18446744073709551616).toNat
def enB (wp wo:Nat) (e:EI):List Bool:=numBits e.1.toNat wp++numBits (u64N e.2) wo
def ensB (wp wo:Nat) (E:List EI):List Bool:=E.flatMap (enB wp wo)
theorem ensB_len (wp wo:Nat) (E:List EI):(ensB wp wo E).length=E.length * (wp+wo):=by
 induction E with
 |nil=>simp [ensB]
 |cons e E ih=>
  simp only [ensB,List.flatMap_cons,List.length_append,List.length_cons,enB,numBits_len] at ih ⊢;rw [ih,Nat.add_mul];omega
theorem pute_is (W0:World) (p:Nat) (L:List Bool) (wp wo:Nat) (E:List EI) (v:Value) (w:World) (h:WrI K W0 p L w) (hE:EOff W0 v E) (hok:∀e∈E,EntOK e) (hlen:E.length≤65536) (h1:wp≤64) (h2:wo≤64) (hL:L.length≤1073741824):
  Calls Tryz.prog 214 #[.pointer (some ⟨p,0,none⟩),.agg #[.int .i64 (wp:Int),.int .i64 (wo:Int)],v] w (RWr K W0 p (L++ensB wp wo E)):=by
 obtain ⟨ao,cap,rfl,hc⟩:=hE;obtain ⟨K1,hk1,hk2,hI'⟩:=h.box (.cells #[.int .i64 (wp:Int),.int .i64 (wo:Int)] 219) (fun cur e=>by injection e with _ e;revert e;decide);have HK1:=Hid.mk hk1;have HK2:=Hid.mk hk2;have HI0:=Hid.mk hI';have HOK:=Hid.mk hok
 have HLb:Hid (∀k,(ensB wp wo (E.take k)).length≤8388608):=fun k=>by
  have h3:=List.length_take_le' k E;have h4:(E.take k).length * (wp+wo)≤65536 * 128:=Nat.mul_le_mul (by omega) (by omega);rw [ensB_len];exact h4
 clear h hk1 hk2 hI' hok;go_enter Tryz.func214,Tryz.ntmps214;go_wp2_with fail;go_loopg [10] E.length (fun r n wr=>∃k:Nat,r=E.length - k∧k≤E.length∧n= .int .i64 k∧WrI K1 W0 p (L++ensB wp wo (E.take k)) wr)
 case atStart=>exact ⟨0,by omega,by omega,rfl,by simpa [ensB] using HI0.out⟩
 case round=>
  obtain ⟨k,hr,hk,rfl,hI⟩:=hrel;have HI:=Hid.mk hI;clear hI HI0;by_cases hlt:k<E.length
  ·obtain ⟨g,o,rfl,c0,c1⟩:=hc k hlt;have hBel:=HI.out.1;have c0':=hBel.cell c0;have c1':=hBel.cell c1;obtain ⟨e1,e2,e3,e4⟩:=HOK.out _ (List.getElem_mem hlt);obtain ⟨LL,hLL⟩:∃LL,LL=L++ensB wp wo (E.take k):=⟨_,rfl⟩
   have HS:Hid (L++ensB wp wo (E.take (k+1))=(LL++numBits E[k].1.toNat wp)++numBits (u64N E[k].2) wo):=by
    show _=_;rw [hLL];simp only [ensB];rw [List.take_succ_eq_append_getElem hlt,List.flatMap_append];simp [enB]
   have hll:LL.length≤1082130432:=by
    have:=HLb.out k;rw [hLL,List.length_append];omega
   rw [←hLL] at HI;clear hLL
   have HU:IntKind.u64.wrap E[k].2=(u64N E[k].2:Int):=by
    rw [IntKind.wrap_u64];unfold u64N;omega
   have hu:u64N E[k].2<2 ^ 64:=by unfold u64N;omega
   generalize u64N E[k].2=x2 at *;generalize E[k].1=pt at *;generalize E[k].2=ow at *;obtain ⟨x1,rfl⟩:∃m:Nat,pt=(m:Int):=⟨pt.toNat,by omega⟩
   have hw0:(w.heap.size:Nat)<wr.heap.size:=by
    have:=HI.out.block HK1.out;rcases Nat.lt_or_ge w.heap.size wr.heap.size with h|h
    ·exact h
    ·rw [Array.getElem?_eq_none h] at this;cases this
   obtain ⟨K3,hk3,hk4,hI'⟩:=HI.out.box (.cells #[.int .u64 (x1:Int),.int .i64 ow] 116) (fun cur e=>by injection e with _ e;revert e;decide);have HK3:=Hid.mk hk3;have HK4:=Hid.mk hk4;have q0:=HI.out.cell HK1.out (j:=0) (u:= .int .i64 (wp:Int)) (by simp);have H1:=Hid.mk (wnum_is W0 p LL x1 wp _ hI' (by omega) (by omega) (by omega));clear hc c0 c1 hBel HLb HI hI' hk3 hk4;have hne:w.heap.size≠wr.heap.size:=by omega
   go_wp2_with fail;refine H1.out.mono ?_;rintro e w2 ⟨rfl,hI2⟩;have H2:=Hid.mk (wnum_is W0 p _ x2 wo w2 hI2 (by simp only [List.length_append,numBits_len];omega) (by omega) hu);have a1:=hI2.cell HK3.out (j:=1) (u:= .int .i64 ow) (by simp);have q1:=hI2.cell (HK4.out _ _ HK1.out) (j:=1) (u:= .int .i64 (wo:Int)) (by simp);rw [←HU] at H2;clear hI2 H1 q0 HU;go_wp2_with fail;refine H2.out.mono ?_;rintro e w3 ⟨rfl,hI3⟩;have HI4:=Hid.mk (hI3.drop HK4.out);clear hI3 H2 a1 q1;go_wp2_with fail;go_roundg (E.length - (k+1))
   case measure=>omega
   case rel=>
    refine ⟨k+1,rfl,by omega,by go_num,?_⟩;rw [HS.out];exact HI4.out
  ·have HE:Hid (E.take k=E):=List.take_of_length_le (by omega);clear hc HLb;go_wp2;go_end0;refine ⟨rfl,?_⟩;have:=HI.out.drop HK2.out;rw [HE.out] at this;exact this
end Go.Proofs.YtpapdkhjdelfcabGreat
namespace Go.Proofs.YtpapdkhjdelfcabGreat
open Go.RowKit
def headB (f g:Nat) (c:Cfg):List Bool:=((((((([]++bytesBits [67,72])++numBits f (8 * 1))++numBits c.alg.toNat (8 * 1))++numBits g (8 * 4))++numBits c.slots.toNat (8 * 2))++numBits c.points.toNat (8 * 1))++numBits c.probes.toNat (8 * 1))++bytesBits c.key.data.toList
def bodyB (f g:Nat) (c:Cfg) (B:List BK) (E:List EI):List Bool:=((headB f g c++bksB B)++numBits E.length (8 * 2))++ensB (wpF c.alg) (woF f c.alg B.length) E
theorem headB_len (f g:Nat) (c:Cfg) (hk:c.key.size=16):(headB f g c).length=224:=by
 have:c.key.data.size=16:=hk;simp [headB,numBits_len,bytesBits_len,this]
theorem bodyB_len {f g:Nat} {c:Cfg} {B:List BK} {E:List EI} (hk:c.key.size=16) (hB:PoolOK B) (hE:E.length≤65536):(bodyB f g c B E).length≤8389600:=by
 have h1:=headB_len f g c hk;have h2:=bksB_len hB;have h3:E.length * (wpF c.alg+woF f c.alg B.length)≤65536 * 128:=Nat.mul_le_mul (by omega) (by have:=wpF_le c.alg;have:=woF_le f c.alg B.length;omega);simp only [bodyB,List.length_append,numBits_len,ensB_len,h1];omega
theorem body_is (f g:Nat) (c:Cfg) (B:List BK) (E:List EI) (vP vE:Value) (w:World) (hf:f≤4611686018427387904) (hg:g≤4611686018427387904) (hc:c.TOK) (hP:PoolAt w vP B) (hB:PoolOK B) (hE:EOff w vE E) (hok:∀e∈E,EntOK e) (hlen:E.length≤65536):
  Calls Tryz.prog 173 #[.int .i64 (f:Int),.int .i64 (g:Int),tabV c vP vE] w (RTx w (packB (bodyB f g c B E))):=by
 obtain ⟨aP,capP,rfl, -⟩:=hP.open;obtain ⟨aE,capE,rfl, -⟩:=id hE;have h8:=hB.1;obtain ⟨t1,t2,t3,t4, -,t5,t6,t7,t8,t9⟩:=hc;have hbl:=bodyB_len (f:=f) (g:=g) (E:=E) t9 hB hlen;have hhl:=headB_len f g c t9;have hbk:=bksB_len hB;obtain ⟨XB,hXB⟩:∃X,X=bodyB f g c B E:=⟨_,rfl⟩;have HXB:=Hid.mk hXB;rw [←hXB] at hbl ⊢;clear hXB;unfold bodyB headB at HXB;unfold headB at hhl;unfold tabV;obtain ⟨alg,slots,points,probes,key,formats⟩:=c;simp only at *;obtain ⟨a,rfl⟩:∃m:Nat,alg=(m:Int):=⟨alg.toNat,by omega⟩;obtain ⟨sl,rfl⟩:∃m:Nat,slots=(m:Int):=⟨slots.toNat,by omega⟩;obtain ⟨pt,rfl⟩:∃m:Nat,points=(m:Int):=⟨points.toNat,by omega⟩;obtain ⟨pr,rfl⟩:∃m:Nat,probes=(m:Int):=⟨probes.toNat,by omega⟩;simp only [Int.toNat_natCast] at HXB hhl;obtain ⟨W0,hW0⟩:∃W0,W0=w.alloc (.cells #[.int .i64 (a:Int),.int .i64 (sl:Int),.int .i64 (pt:Int),.int .i64 (pr:Int),.string key,.int .i64 formats,.slice aP B.length capP,.slice aE E.length capE] 66):=⟨_,rfl⟩;have hsz:W0.heap.size=w.heap.size+1:=by rw [hW0];simp
 have hb0:Bel w W0:=by rw [hW0];exact (Bel.refl w).step_alloc _
 have q0:W0.cell? ⟨w.heap.size,0,none⟩=some (.int .i64 (a:Int)):=by rw [hW0];simp
 have q1:W0.cell? ⟨w.heap.size,1,none⟩=some (.int .i64 (sl:Int)):=by rw [hW0];simp
 have q2:W0.cell? ⟨w.heap.size,2,none⟩=some (.int .i64 (pt:Int)):=by rw [hW0];simp
 have q3:W0.cell? ⟨w.heap.size,3,none⟩=some (.int .i64 (pr:Int)):=by rw [hW0];simp
 have q4:W0.cell? ⟨w.heap.size,4,none⟩=some (.string key):=by rw [hW0];simp
 have q6:W0.cell? ⟨w.heap.size,6,none⟩=some (.slice aP B.length capP):=by rw [hW0];simp
 have q7:W0.cell? ⟨w.heap.size,7,none⟩=some (.slice aE E.length capE):=by rw [hW0];simp
 have HP:=Hid.mk (hP.later hb0);have HE:=Hid.mk (hE.later hb0);have HOK:=Hid.mk hok;have HPB:=Hid.mk hB;have hI0:=WrI.new W0 149;rw [hsz] at hI0;have H0:=Hid.mk (wtext_is W0 (w.heap.size+1) [] ⟨#[67,72]⟩ _ hI0 (by simp [ByteArray.size]));have hks:key.data.toList.length=16:=by rw [Array.length_toList];exact t9
 have hkd:key.data.size=16:=t9;clear hI0 hP hE hok hB;go_enter Tryz.func173,Tryz.ntmps173;go_wp2_with fail;rw [←hW0];refine H0.out.mono ?_;rintro e w1 ⟨rfl,hI⟩;clear H0;have H1:=Hid.mk (wint_is W0 (w.heap.size+1) _ f 1 _ hI (by simp [bytesBits_len]) (by omega) (by omega));clear hI;go_wp2_with fail;refine H1.out.mono ?_;rintro e w2 ⟨rfl,hI⟩;clear H1;have H2:=Hid.mk (wint_is W0 (w.heap.size+1) _ a 1 _ hI (by simp [bytesBits_len,numBits_len]) (by omega) (by omega));have x1:=hI.1.cell q0;clear hI;go_wp2_with fail;refine H2.out.mono ?_;rintro e w3 ⟨rfl,hI⟩;clear H2 x1;have H3:=Hid.mk (wint_is W0 (w.heap.size+1) _ g 4 _ hI (by simp [bytesBits_len,numBits_len]) (by omega) (by omega));clear hI;go_wp2_with fail;refine H3.out.mono ?_;rintro e w4 ⟨rfl,hI⟩;clear H3;have H4:=Hid.mk (wint_is W0 (w.heap.size+1) _ sl 2 _ hI (by simp [bytesBits_len,numBits_len]) (by omega) (by omega));have x3:=hI.1.cell q1;clear hI;go_wp2_with fail;refine H4.out.mono ?_;rintro e w5 ⟨rfl,hI⟩;clear H4 x3;have H5:=Hid.mk (wint_is W0 (w.heap.size+1) _ pt 1 _ hI (by simp [bytesBits_len,numBits_len]) (by omega) (by omega));have x4:=hI.1.cell q2;clear hI;go_wp2_with fail;refine H5.out.mono ?_;rintro e w6 ⟨rfl,hI⟩;clear H5 x4;have H6:=Hid.mk (wint_is W0 (w.heap.size+1) _ pr 1 _ hI (by simp [bytesBits_len,numBits_len]) (by omega) (by omega));have x5:=hI.1.cell q3;clear hI;go_wp2_with fail;refine H6.out.mono ?_;rintro e w7 ⟨rfl,hI⟩;clear H6 x5;have H7:=Hid.mk (wtext_is W0 (w.heap.size+1) _ key _ hI (by simp [bytesBits_len,numBits_len];omega));have x6:=hI.1.cell q4;clear hI;go_wp2_with fail;refine H7.out.mono ?_;rintro e w8 ⟨rfl,hI⟩;clear H7 x6;generalize hHD:((((((([]++bytesBits [67,72])++numBits f (8 * 1))++numBits a (8 * 1))++numBits g (8 * 4))++numBits sl (8 * 2))++numBits pt (8 * 1))++numBits pr (8 * 1))++bytesBits key.data.toList=HD at *;clear hHD;have H8:=Hid.mk (putb_is W0 (w.heap.size+1) _ B _ _ hI HP.out HPB.out (by omega));have x8:=hI.1.cell q6;clear hI;go_wp2_with fail;refine H8.out.mono ?_;rintro e w9 ⟨rfl,hI⟩;clear H8 x8;have H9:=Hid.mk (wint_is W0 (w.heap.size+1) _ E.length 2 _ hI (by simp only [List.length_append];omega) (by omega) (by omega));have x9:=hI.1.cell q7;clear hI;go_wp2_with fail;refine H9.out.mono ?_;rintro e w10 ⟨rfl,hI⟩;clear H9 x9;have HI:=Hid.mk hI;have y0:=hI.1.cell q0;have y6:=hI.1.cell q6;have y7:=hI.1.cell q7;have hwd:=fun wx=>widths_is (f:Int) (a:Int) B.length wx h8
 unfold widV at hwd;have hwo:=woF_le (f:Int) (a:Int) B.length;have hwp:=wpF_le (a:Int);generalize wpF (a:Int)=wp at *;generalize woF (f:Int) (a:Int) B.length=wo at *;have hpe:=fun wx hx=>pute_is (K:=fun _=>none) W0 (w.heap.size+1) ((HD++bksB B)++numBits E.length (8 * 2)) wp wo E (.slice aE E.length capE) wx hx HE.out HOK.out hlen (by omega) (by omega) (by simp only [List.length_append,numBits_len];omega)
 clear hI;go_wp2_with fail
 go_region_with (first
   | (go_at_call 192
      refine (hwd _).mono ?_
      rintro e w11 ⟨rfl, hb11x⟩
      have hb11 : Bel w10 w11 := by first | exact hb11x | exact (Bel.step_drew (Bel.refl w10)).trans hb11x
      have HI11 := Hid.mk (HI.out.later hb11)
      have z7 := hb11.cell y7
      have z0 := hb11.cell y0
      have z6 := hb11.cell y6
      clear hb11x hb11 hwd)
   | (go_at_call 214
      refine (hpe _ (by first | exact HI11.out | exact HI11.out.later (Bel.step_drew (Bel.refl _)))).mono ?_
      rintro e w12 ⟨rfl, hI12⟩
      have HI12 := Hid.mk hI12
      clear hI12 hpe))
 all_goals
  have hd:=wdone_is W0 (w.heap.size+1) _ _ HI12.out (by rw [←HXB.out];omega);rw [←HXB.out] at hd;have HD9:=Hid.mk hd;clear hd;go_wp2_with fail;refine HD9.out.mono ?_;rintro e w13 ⟨rfl,hI13⟩;have HB13:=Hid.mk (hb0.trans hI13.1);clear hI13 HD9;generalize packB XB=PB at *;go_wp2;go_ret;exact ⟨rfl,HB13.out⟩
end Go.Proofs.YtpapdkhjdelfcabGreat
namespace Go.Proofs.YtpapdkhjdelfcabGreat
open Go.RowKit
def numP (W:Nat) (X:List Bool):Option (Nat×List Bool):=if X.length<W then none else some (valB (X.take W),X.drop W)
def textP (k:Nat) (X:List Bool):Option (List UInt8×List Bool):=if X.length<8 * k then none else some (packB (X.take (8 * k)),X.drop (8 * k))
def Rs (p:Nat) (o:Option (List Bool)) (w:World):Prop:=∃X,Rd p X o.isNone w∧∀Y,o=some Y→X=Y
def endP:Option (List Bool)→Bool
 |some X=>decide (X.length<8) && decide (valB X=0)
 |none=>false
theorem Rs.some {p:Nat} {X:List Bool} {w:World} (h:Rd p X false w):Rs p (some X) w:=⟨X,h,fun Y e=>by injection e⟩
theorem Rs.none {p:Nat} {X:List Bool} {w:World} (h:Rd p X true w):Rs p none w:=⟨X,h,fun Y e=>by cases e⟩
theorem Rs.kept {p:Nat} {o:Option (List Bool)} {w w':World} (h:Rs p o w) (hb:w'.heap[p]?=w.heap[p]?):Rs p o w':=by
 obtain ⟨X,h1,h2⟩:=h;exact ⟨X,h1.kept hb,h2⟩
theorem Rs.lt {p:Nat} {o:Option (List Bool)} {w:World} (h:Rs p o w):p<w.heap.size:=by
 obtain ⟨X,h1,h2⟩:=h;exact h1.lt
def RNumP (p:Nat) (k:IntKind) (W:Nat) (o:Option (List Bool)) (w:World) (e:Ending) (w':World):Prop:=
 ∃(x:Nat) (o':Option (List Bool)),e= .returned (.int k (x:Int))∧But [p] w w'∧Rs p o' w'∧x<2 ^ W∧o.bind (numP W)=o'.map (Prod.mk x)
theorem num_step {p W:Nat} {o:Option (List Bool)} {X:List Bool} {w':World} (h2:∀Y,o=some Y→X=Y) (hr:Rd p (X.drop W) (o.isNone||decide (X.length<W)) w'):∃o',Rs p o' w'∧o.bind (numP W)=o'.map (Prod.mk (valB (padB X W))):=by
 cases o with
 |none=>exact ⟨none,Rs.none hr,rfl⟩
 |some Y=>
  obtain rfl:=h2 Y rfl;by_cases hl:X.length<W
  ·refine ⟨none,?_,by simp [numP,hl]⟩;simp [hl] at hr;exact Rs.none hr
  ·refine ⟨some (X.drop W),?_,?_⟩
   ·simp [hl] at hr;exact Rs.some hr
   ·have:=padB_take X W (by omega);simp [numP,hl,this]
theorem pad_lt (X:List Bool) (W:Nat):valB (padB X W)<2 ^ W:=by
 have:=valB_lt (padB X W);rw [padB_len] at this;exact this
theorem rnum_p (p:Nat) (o:Option (List Bool)) (W:Nat) (w:World) (h:Rs p o w) (hW:W≤64):
  Calls Tryz.prog 172 #[.pointer (some ⟨p,0,none⟩),.int .i64 (W:Int)] w (RNumP p .u64 W o w):=by
 obtain ⟨X,h1,h2⟩:=h;refine (rnum_is p X _ W w h1 hW).mono ?_;rintro e w' ⟨rfl,hB,hR⟩;obtain ⟨o',k1,k2⟩:=num_step h2 hR;exact ⟨_,o',rfl,hB,k1,pad_lt _ _,k2⟩
theorem rint_p (p:Nat) (o:Option (List Bool)) (W:Nat) (w:World) (h:Rs p o w) (hW:W≤7):
  Calls Tryz.prog 119 #[.pointer (some ⟨p,0,none⟩),.int .i64 (W:Int)] w (RNumP p .i64 (8 * W) o w):=by
 obtain ⟨X,h1,h2⟩:=h;refine (rint_is p X _ W w h1 hW).mono ?_;rintro e w' ⟨rfl,hB,hR⟩;obtain ⟨o',k1,k2⟩:=num_step h2 hR;exact ⟨_,o',rfl,hB,k1,pad_lt _ _,k2⟩
def RTextP (p:Nat) (k:Nat) (o:Option (List Bool)) (w:World) (e:Ending) (w':World):Prop:=
 ∃(l:List UInt8) (o':Option (List Bool)),e= .returned (.string (txt l))∧But [p] w w'∧Rs p o' w'∧l.length≤k∧o.bind (textP k)=o'.map (Prod.mk l)
theorem txt_step {p k:Nat} {o:Option (List Bool)} {X X':List Bool} {s':Bool} {l:List UInt8} {w':World} (h2:∀Y,o=some Y→X=Y) (hr:Rd p X' s' w') (hT:TxtI X o.isNone k l X' s'):∃o',Rs p o' w'∧o.bind (textP k)=o'.map (Prod.mk l):=by
 obtain ⟨t1,t2,t3,t4⟩:=hT;cases o with
 |none=>
  have:=t4 (Or.inl rfl);subst this;exact ⟨none,Rs.none hr,rfl⟩
 |some Y=>
  obtain rfl:=h2 Y rfl;by_cases hl:X.length<8 * k
  ·have:=t4 (Or.inr hl);subst this;exact ⟨none,Rs.none hr,by simp [textP,hl]⟩
  ·obtain ⟨g1,g2,g3⟩:=t3 rfl (by omega);subst g3;refine ⟨some X',Rs.some hr,?_⟩
   have e:packB (bytesBits l)=l:=by
    have:=packB_bytes l [];simpa [packB] using this
   rw [g1] at e;simp [textP,hl,e,g2]
theorem rtext_p (p:Nat) (o:Option (List Bool)) (k:Nat) (w:World) (h:Rs p o w) (hW:k≤1099511627776):
  Calls Tryz.prog 118 #[.pointer (some ⟨p,0,none⟩),.int .i64 (k:Int)] w (RTextP p k o w):=by
 obtain ⟨X,h1,h2⟩:=h;refine (rtext_is p X _ k w h1 hW).mono ?_;rintro e w' ⟨l,X',s',rfl,hB,hR,hT⟩;obtain ⟨o',k1,k2⟩:=txt_step h2 hR hT;exact ⟨l,o',rfl,hB,k1,hT.1,k2⟩
theorem rover_p (p:Nat) (o:Option (List Bool)) (w:World) (h:Rs p o w):
  Calls Tryz.prog 120 #[.pointer (some ⟨p,0,none⟩)] w (RShort w (endP o)):=by
 obtain ⟨X,h1,h2⟩:=h;have:=rover_is p X _ w h1;cases o with
 |none=>simpa [overB,endP] using this
 |some Y=>
  obtain rfl:=h2 Y rfl;simpa [overB,endP] using this
theorem rshort_p (p:Nat) (o:Option (List Bool)) (w:World) (h:Rs p o w):
  Calls Tryz.prog 222 #[.pointer (some ⟨p,0,none⟩)] w (RShort w o.isNone):=by
 obtain ⟨X,h1,h2⟩:=h;exact rshort_is p X _ w h1
theorem rtext_neg (p:Nat) (o:Option (List Bool)) (k:Int) (w:World) (h:Rs p o w) (hk:k<0):
  Calls Tryz.prog 118 #[.pointer (some ⟨p,0,none⟩),.int .i64 k] w (RTextP p 0 o w):=by
 have HH:=Hid.mk h;clear h;have hcr:=conv_row (Bs:=[]) (World.ownsRow_nil (w:=w) w.heap.size 5 1);go_enter Tryz.func118,Tryz.ntmps118;go_wp2;go_loopg [5,6] 0 (fun r v d wr=>v= .slice none 0 0∧d= .int .i64 0∧wr=w)
 case atStart=>exact ⟨rfl,rfl,rfl⟩
 case round=>
  obtain ⟨rfl,rfl,rfl⟩:=hrel;go_wp2;go_ret;refine ⟨[],o,rfl,But.refl _ _,HH.out,by simp,?_⟩;cases o with
  |none=>rfl
  |some X=>simp [textP,packB]
def manyP {α:Type} (P:List Bool→Option (α×List Bool)):Nat→List Bool→Option (List α×List Bool)
 |0,X=>some ([],X)
 |n+1,X=>(manyP P n X).bind fun y=>(P y.2).map fun z=>(y.1++[z.1],z.2)
theorem manyP_none {α:Type} {P:List Bool→Option (α×List Bool)} {X:List Bool} {k n:Nat} (h:manyP P k X=none) (hk:k≤n):manyP P n X=none:=by
 induction n with
 |zero=>
  obtain rfl:k=0:=by omega
  exact h
 |succ n ih=>
  by_cases hkn:k=n+1
  ·rw [←hkn];exact h
  ·rw [manyP,ih (by omega)];rfl
theorem many_stop {α:Type} {P:List Bool→Option (α×List Bool)} {o:Option (List Bool)} {L:List α} {k n:Nat} (h:o.bind (manyP P k)=none) (hk:k≤n):o.bind (manyP P n)=(none:Option (List Bool)).map (Prod.mk L):=by
 cases o with
 |none=>rfl
 |some X=>exact manyP_none h hk
theorem many_step {α:Type} {P:List Bool→Option (α×List Bool)} {o o1 o2:Option (List Bool)} {L:List α} {b:α} {k:Nat} (h:o.bind (manyP P k)=o1.map (Prod.mk L)) (h2:o1.bind P=o2.map (Prod.mk b)):o.bind (manyP P (k+1))=o2.map (Prod.mk (L++[b])):=by
 cases o with
 |none=>
  cases o1 with
  |none=>cases o2 with
   |none=>rfl
   |some Y=>simp at h2
  |some Y=>simp at h
 |some X=>
  have h':manyP P k X=o1.map (Prod.mk L):=h;show (manyP P k X).bind _=_;rw [h'];cases o1 with
  |none=>cases o2 with
   |none=>rfl
   |some Y=>simp at h2
  |some Y=>
   have h2':P Y=o2.map (Prod.mk b):=h2;show (P Y).map _=_;rw [h2'];cases o2 <;>rfl
def thenP {α β:Type} (P:List Bool→Option (α×List Bool)) (Q:α→List Bool→Option (β×List Bool)) (X:List Bool):Option (β×List Bool):=(P X).bind fun y=>Q y.1 y.2
theorem then_step {α β:Type} {P:List Bool→Option (α×List Bool)} {Q:α→List Bool→Option (β×List Bool)} {o o1 o2:Option (List Bool)} {a:α} {b:β} (h:o.bind P=o1.map (Prod.mk a)) (h2:o1.bind (Q a)=o2.map (Prod.mk b)):o.bind (thenP P Q)=o2.map (Prod.mk b):=by
 cases o with
 |none=>cases o1 with
  |none=>cases o2 with
   |none=>rfl
   |some Y=>simp at h2
  |some Y=>simp at h
 |some X=>
  have h':P X=o1.map (Prod.mk a):=h;show (P X).bind _=_;rw [h'];cases o1 with
  |none=>cases o2 with
   |none=>rfl
   |some Y=>simp at h2
  |some Y=>exact h2
def doneP {α:Type} (a:α) (X:List Bool):Option (α×List Bool):=some (a,X)
theorem done_step {α:Type} {o:Option (List Bool)} (a:α):o.bind (doneP a)=o.map (Prod.mk a):=by cases o <;>rfl
end Go.Proofs.YtpapdkhjdelfcabGreat
namespace Go.Proofs.YtpapdkhjdelfcabGreat
open Go.RowKit
theorem But.setN {M:List Nat} {a w:World} (h:But M a w) {q:Addr} (hq:a.heap.size≤q.block) (u:Value):But M a (w.setCell q u):=
 But.mk h.os h.tape h.output (by have := h.size; simpa using this) (fun k hk hm => by
   have : (w.setCell q u).heap[k]? = w.heap[k]? := by simp only [World.setCell, Array.getElem?_modify, if_neg (by omega : q.block ≠ k)]
   exact this.trans (h.block k hk hm))
theorem Bel.sets5 {w V:World} {r:Nat} (h:Bel w V) (hr:w.heap.size≤r) (u0 u1 u2 u3 u4:Value):Bel w (((((V.setCell ⟨r,0,none⟩ u0).setCell ⟨r,1,none⟩ u1).setCell ⟨r,2,none⟩ u2).setCell ⟨r,3,none⟩ u3).setCell ⟨r,4,none⟩ u4):=
 ((((h.step_set (p:=⟨r,0,none⟩) hr _).step_set (p:=⟨r,1,none⟩) hr _).step_set (p:=⟨r,2,none⟩) hr _).step_set (p:=⟨r,3,none⟩) hr _).step_set (p:=⟨r,4,none⟩) hr _
def St (W0:World) (p:Nat) (o:Option (List Bool)) (q:Nat) (tq:TypeId) (qc:Array Value) (W:World):Prop:=But [p] W0 W∧Rs p o W∧BoxC q tq qc W∧W0.heap.size≤q∧q≠p
theorem St.read {W0:World} {p:Nat} {o o':Option (List Bool)} {q:Nat} {tq:TypeId} {qc:Array Value} {W W':World} (h:St W0 p o q tq qc W) (hB:But [p] W W') (hR:Rs p o' W'):St W0 p o' q tq qc W':=
 ⟨h.1.trans hB,hR,h.2.2.1.but hB (by simpa using h.2.2.2.2),h.2.2.2⟩
theorem St.put {W0:World} {p:Nat} {o:Option (List Bool)} {q:Nat} {tq:TypeId} {qc qc':Array Value} {W:World} (h:St W0 p o q tq qc W) (j:Nat) (u:Value) (hc:qc.setIfInBounds j u=qc'):St W0 p o q tq qc' (W.setCell ⟨q,j,none⟩ u):=
 ⟨h.1.setN (q:=⟨q,j,none⟩) h.2.2.2.1 u,h.2.1.kept (by simp only [World.setCell,Array.getElem?_modify,if_neg h.2.2.2.2]),h.2.2.1.set j u hc,h.2.2.2⟩
theorem St.bel {W0:World} {p:Nat} {o:Option (List Bool)} {q:Nat} {tq:TypeId} {qc:Array Value} {W W':World} (h:St W0 p o q tq qc W) (k:Bel W W'):St W0 p o q tq qc W':=
 ⟨h.1.step k,h.2.1.kept (k.block p h.2.1.lt),h.2.2.1.bel k,h.2.2.2⟩
theorem St.rs {W0:World} {p:Nat} {o:Option (List Bool)} {q:Nat} {tq:TypeId} {qc:Array Value} {W:World} (h:St W0 p o q tq qc W):Rs p o W:=h.2.1
theorem St.box {W0:World} {p:Nat} {o:Option (List Bool)} {q:Nat} {tq:TypeId} {qc:Array Value} {W:World} (h:St W0 p o q tq qc W):BoxC q tq qc W:=h.2.2.1
theorem St.new {W0:World} {p:Nat} {o:Option (List Bool)} {tq:TypeId} {qc:Array Value} {W:World} (h:But [p] W0 W) (hR:Rs p o W):St W0 p o W.heap.size tq qc (W.alloc (.cells qc tq)):=
 ⟨h.step ((Bel.refl W).step_alloc _),hR.kept (((Bel.refl W).step_alloc _).block p hR.lt),BoxC.new W tq qc,h.size,by have:=hR.lt;omega⟩
theorem Rs.new (w:World) (b:List UInt8) (ty:TypeId):Rs w.heap.size (Option.some (bytesBits b)) (w.alloc (.cells #[.string (txt b),.int .u64 0,.bool false] ty)):=by
 have h:=BoxC.new w ty #[.string (txt b),.int .u64 0,.bool false];have:=Rd.new (h.cell 0 rfl) (h.cell 1 rfl) (h.cell 2 rfl) (fun j=>h.free j);rw [txt_list] at this;exact Rs.some this
theorem txt_toList (l:List UInt8):(txt l).toList=l:=by rw [ByteArray.toList_eq];exact txt_list l
theorem txt_is (l m:List UInt8):((txt l).toList==m)=decide (l=m):=by rw [txt_toList];by_cases h:l=m <;>simp [h]
theorem txt_eq (l m:List UInt8):((txt l).toList==(txt m).toList)=decide (l=m):=by
 by_cases h:l=m
 ·subst h;simp
 ·rw [decide_eq_false h];cases hx:((txt l).toList==(txt m).toList)
  ·rfl
  ·have:=congrArg (fun z=>z.data.toList) (str_eq.1 hx);rw [txt_list,txt_list] at this;exact absurd this h
end Go.Proofs.YtpapdkhjdelfcabGreat
