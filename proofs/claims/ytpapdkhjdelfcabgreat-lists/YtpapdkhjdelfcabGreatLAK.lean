import Derived.Test.YtpapdkhjdelfcabGreatLAJ
namespace Go.Proofs.YtpapdkhjdelfcabGreat
open Go.RowKit
set_option maxRecDepth 100000
set_option maxHeartbeats 4000000
variable {K:Nat→Option Obj}
def Fq (a:Int):Bool:=a==2||a==4
theorem Lu (a:Int) (w:World):Calls Tryz.prog 224 #[.int .i64 a] w (GX w (Fq a)):=by
 unfold Fq;go_enter Tryz.func224,Tryz.ntmps224;cases h2:(a==2)
 ·go_wp2;go_ret;exact ⟨by simp,by solve_by_elim [jA,jB,jC,jD,jE]⟩
 ·go_wp2;go_ret;exact ⟨by simp,by solve_by_elim [jA,jB,jC,jD,jE]⟩
def G3 (y:Nat):Nat:=if y=0 then 0 else if y=1 then 1 else 2
def Gf (n:Nat):Nat:=1+G3 ((n - 1) / 2)
theorem TS (n:Nat) (w:World) (hn:n≤8):Calls Tryz.prog 225 #[.int .i64 (n:Int)] w (D9 w (Gf n)):=by
 have hq:((n:Int) - 1).tdiv 2=(((n - 1) / 2:Nat):Int):=by
  rcases n with _|n
  ·decide
  ·rw [show ((n+1:Nat):Int) - 1=(n:Int) by omega,show n+1 - 1=n by omega];rfl
 obtain ⟨y0,hy0⟩:∃y,y=(n - 1) / 2:=⟨_,rfl⟩;have hy3:y0≤3:=by omega
 have HP:Hid (Gf n=1+G3 y0):=by show _=_;rw [Gf,hy0]
 have HP3:Hid (Gf n≤3):=by show _≤_;rw [HP.out];unfold G3;split <;>(try split)<;>omega
 rw [←hy0] at hq;clear hy0;go_enter Tryz.func225,Tryz.ntmps225;go_wp2;go_loopg [3,4] y0 (fun r x d wr=>w=wr∧∃a y:Nat,r=y∧y≤3∧a≤10∧x= .int .i64 (a:Int)∧d= .int .i64 (y:Int)∧a+G3 y=Gf n)
 case atStart=>exact ⟨rfl,1,y0,rfl,hy3,by omega,rfl,by go_num,HP.out.symm⟩
 case round=>
  obtain ⟨rfl,a,y,hr,hy,ha,rfl,rfl,he⟩:=hrel;have HE:=jp he;clear he hq;by_cases h0:y=0
  ·subst h0;go_wp2;go_ret;exact ⟨by have:=HE.out;simp [G3] at this;simp [this],by solve_by_elim [jA,jB,jC,jD,jE]⟩
  ·have hy2:((y:Int)).tdiv 2=((y / 2:Nat):Int):=rfl;have hpos:(0:Int)<(y:Int):=by omega
   go_wp2_with fail;go_roundg (y / 2)
   case measure=>omega
   case rel => exact ⟨rfl, a + 1, y / 2, rfl, by omega, by have := HE.out; have := HP3.out; omega, by go_num, by go_num, by
     rw [← HE.out]
     unfold G3
     have : y = 1 ∨ y = 2 ∨ y = 3 := by omega
     rcases this with h | h | h <;> subst h <;> simp⟩
variable {K:Nat→Option Obj}
def CO (alg:Int):Nat:=if Fq alg then 64 else 0
def CX (f alg:Int) (n:Nat):Nat:=if f=2 then Gf n else if Fq alg then 8 else 16
theorem YF (n:Nat):Gf n≤3:=by unfold Gf G3;split <;>(try split)<;>omega
theorem Hs (f alg:Int) (n:Nat):CX f alg n≤16:=by have:=YF n;unfold CX;split <;>(try split)<;>omega
theorem GJ (alg:Int):CO alg≤64:=by unfold CO;split <;>omega
def IG (f alg:Int) (n:Nat):Value:= .agg #[.int .i64 (CO alg:Int),.int .i64 (CX f alg n:Int)]
def U2 (w:World) (v:Value) (e:Ending) (w':World):Prop:=e= .returned v∧Aa w w'
theorem J5 (f alg:Int) (n:Nat) (w:World) (hn:n≤8):Calls Tryz.prog 192 #[.int .i64 f,.int .i64 alg,.int .i64 (n:Int)] w (U2 w (IG f alg n)):=by
 have hhp:=fun wx=>Lu alg wx
 have hpb:=fun wx=>TS n wx hn
 unfold IG CO CX;generalize Gf n=x at *;cases hP:Fq alg
 ·rw [hP] at hhp;by_cases hf:f=2
  ·subst hf;go_enter Tryz.func192,Tryz.ntmps192;go_wp2_with fail;refine (hhp _).mono ?_;rintro e w1 ⟨rfl,hb1⟩;have B0:=((Ae.new w 219 #[.int .i64 0,.int .i64 0]).alloc (.cells #[.int .i64 0,.int .i64 16] 219)).bel hb1;have B1:=(Ae.new (w.alloc (.cells #[.int .i64 0,.int .i64 0] 219)) 219 #[.int .i64 0,.int .i64 16]).bel hb1;rw [show (w.alloc (.cells #[.int .i64 0,.int .i64 0] 219)).heap.size=w.heap.size+1 by simp] at B1;have HB:=jp ((((jD w).step_alloc _).step_alloc _).trans hb1);clear hb1;have B2:=B1;have C0:=B0;have HC:=HB;clear B0 B1 HB;replace B2:=jp B2;replace C0:=jp C0;go_wp2_with fail;refine (hpb _).mono ?_;rintro e w2 ⟨rfl,hb2⟩;have D0:=C0.out.bel hb2;have D1:=B2.out.bel hb2;have HD:=jp (HC.out.trans hb2);have r0:=D0.cell 0 rfl;have f0:=D0.free 0;have r1:=D0.cell 1 rfl;have f1:=D0.free 1;have q0:=D1.cell 0 rfl;have h0:=D1.free 0;have q1:=D1.cell 1 rfl;have h1:=D1.free 1;clear D0 D1 hb2 HC B2 C0;go_wp2;refine bodyPost_ret (by simp [results,Tryz.results192,go_sem,r0,r1];rfl) rfl ⟨by simp,?_⟩;have hD:=HD.out;(repeat (first|assumption|refine Aa.step_set ?_ (by simp) _))
  ·have hf2:(f==2)=false:=by simp [hf]
   go_enter Tryz.func192,Tryz.ntmps192;go_wp2_with fail;refine (hhp _).mono ?_;rintro e w1 ⟨rfl,hb1⟩;have B0:=((Ae.new w 219 #[.int .i64 0,.int .i64 0]).alloc (.cells #[.int .i64 0,.int .i64 16] 219)).bel hb1;have B1:=(Ae.new (w.alloc (.cells #[.int .i64 0,.int .i64 0] 219)) 219 #[.int .i64 0,.int .i64 16]).bel hb1;rw [show (w.alloc (.cells #[.int .i64 0,.int .i64 0] 219)).heap.size=w.heap.size+1 by simp] at B1;have HB:=jp ((((jD w).step_alloc _).step_alloc _).trans hb1);clear hb1;have B2:=B1;have C0:=B0;have HC:=HB;clear B0 B1 HB;have r0:=C0.cell 0 rfl;have f0:=C0.free 0;have r1:=C0.cell 1 rfl;have f1:=C0.free 1;have q0:=B2.cell 0 rfl;have h0:=B2.free 0;have q1:=B2.cell 1 rfl;have h1:=B2.free 1;have HD:=HC;clear HC B2 C0;go_wp2;refine bodyPost_ret (by simp [results,Tryz.results192,go_sem,r0,r1];rfl) rfl ⟨by simp,?_⟩;have hD:=HD.out;(repeat (first|assumption|refine Aa.step_set ?_ (by simp) _))
 ·rw [hP] at hhp;by_cases hf:f=2
  ·subst hf;go_enter Tryz.func192,Tryz.ntmps192;go_wp2_with fail;refine (hhp _).mono ?_;rintro e w1 ⟨rfl,hb1⟩;have B0:=((Ae.new w 219 #[.int .i64 0,.int .i64 0]).alloc (.cells #[.int .i64 0,.int .i64 16] 219)).bel hb1;have B1:=(Ae.new (w.alloc (.cells #[.int .i64 0,.int .i64 0] 219)) 219 #[.int .i64 0,.int .i64 16]).bel hb1;rw [show (w.alloc (.cells #[.int .i64 0,.int .i64 0] 219)).heap.size=w.heap.size+1 by simp] at B1;have HB:=jp ((((jD w).step_alloc _).step_alloc _).trans hb1);clear hb1;have x0:=B1.cell 0 rfl;have y0:=B1.free 0;have x1:=B1.cell 1 rfl;have y1:=B1.free 1;have B2:=(B1.set 0 (.int .i64 64) (cs':=#[.int .i64 64,.int .i64 16]) rfl).set 1 (.int .i64 8) (cs':=#[.int .i64 64,.int .i64 8]) rfl;have C0:=(B0.setO (a:=⟨w.heap.size+1,0,none⟩) (by simp) (.int .i64 64)).setO (a:=⟨w.heap.size+1,1,none⟩) (by simp) (.int .i64 8);have HC:=jp ((HB.out.step_set (p:=⟨w.heap.size+1,0,none⟩) (by simp) (.int .i64 64)).step_set (p:=⟨w.heap.size+1,1,none⟩) (by simp) (.int .i64 8));clear B1 HB;clear B0;replace B2:=jp B2;replace C0:=jp C0;go_wp2_with fail;refine (hpb _).mono ?_;rintro e w2 ⟨rfl,hb2⟩;have D0:=C0.out.bel hb2;have D1:=B2.out.bel hb2;have HD:=jp (HC.out.trans hb2);have r0:=D0.cell 0 rfl;have f0:=D0.free 0;have r1:=D0.cell 1 rfl;have f1:=D0.free 1;have q0:=D1.cell 0 rfl;have h0:=D1.free 0;have q1:=D1.cell 1 rfl;have h1:=D1.free 1;clear D0 D1 hb2 HC B2 C0 x0 x1 y0 y1;go_wp2;refine bodyPost_ret (by simp [results,Tryz.results192,go_sem,r0,r1];rfl) rfl ⟨by simp,?_⟩;have hD:=HD.out;(repeat (first|assumption|refine Aa.step_set ?_ (by simp) _))
  ·have hf2:(f==2)=false:=by simp [hf]
   go_enter Tryz.func192,Tryz.ntmps192;go_wp2_with fail;refine (hhp _).mono ?_;rintro e w1 ⟨rfl,hb1⟩;have B0:=((Ae.new w 219 #[.int .i64 0,.int .i64 0]).alloc (.cells #[.int .i64 0,.int .i64 16] 219)).bel hb1;have B1:=(Ae.new (w.alloc (.cells #[.int .i64 0,.int .i64 0] 219)) 219 #[.int .i64 0,.int .i64 16]).bel hb1;rw [show (w.alloc (.cells #[.int .i64 0,.int .i64 0] 219)).heap.size=w.heap.size+1 by simp] at B1;have HB:=jp ((((jD w).step_alloc _).step_alloc _).trans hb1);clear hb1;have x0:=B1.cell 0 rfl;have y0:=B1.free 0;have x1:=B1.cell 1 rfl;have y1:=B1.free 1;have B2:=(B1.set 0 (.int .i64 64) (cs':=#[.int .i64 64,.int .i64 16]) rfl).set 1 (.int .i64 8) (cs':=#[.int .i64 64,.int .i64 8]) rfl;have C0:=(B0.setO (a:=⟨w.heap.size+1,0,none⟩) (by simp) (.int .i64 64)).setO (a:=⟨w.heap.size+1,1,none⟩) (by simp) (.int .i64 8);have HC:=jp ((HB.out.step_set (p:=⟨w.heap.size+1,0,none⟩) (by simp) (.int .i64 64)).step_set (p:=⟨w.heap.size+1,1,none⟩) (by simp) (.int .i64 8));clear B1 HB;have r0:=B0.cell 0 rfl;have f0:=B0.free 0;have r1:=B0.cell 1 rfl;have f1:=B0.free 1;clear B0;have HD:=HC;clear HC B2 C0;go_wp2;refine bodyPost_ret (by simp [results,Tryz.results192,go_sem,r0,r1];rfl) rfl ⟨by simp,?_⟩;have hD:=HD.out;(repeat (first|assumption|refine Aa.step_set ?_ (by simp) _))
variable {K:Nat→Option Obj}
def Bv (w:World) (v:Value) (l:List EI):Prop:=∃ao cap,v= .slice ao l.length cap∧∀j (hj:j<l.length),∃g o,ao=some ⟨g,o,none⟩∧w.cell? ⟨g,o+j * 2,none⟩=some (.int .u64 l[j].1)∧w.cell? ⟨g,o+j * 2+1,none⟩=some (.int .i64 l[j].2)
theorem Bv.of {w:World} {v:Value} {l:List EI} (h:AR w v l):Bv w v l:=by
 obtain ⟨ao,cap,rfl,hc⟩:=h.open;refine ⟨ao,cap,rfl,fun j hj=>?_⟩;obtain ⟨g,h1,h2,h3⟩:=hc j hj;exact ⟨g,0,h1,by simpa using h2,by simpa using h3⟩
theorem Bv.later {a w:World} {v:Value} {l:List EI} (h:Bv a v l) (k:Aa a w):Bv w v l:=by
 obtain ⟨ao,cap,rfl,hc⟩:=h;refine ⟨ao,cap,rfl,fun j hj=>?_⟩;obtain ⟨g,o,h1,h2,h3⟩:=hc j hj;exact ⟨g,o,h1,k.cell h2,k.cell h3⟩
def Fp (e:EI):Prop:=0≤e.1∧e.1<18446744073709551616∧ -9223372036854775808≤e.2∧e.2≤9223372036854775807
def Hk (x:Int):Nat:=(x % 18446744073709551616).toNat
def MK (wp wo:Nat) (e:EI):List Bool:=Ax e.1.toNat wp++Ax (Hk e.2) wo
def EW (wp wo:Nat) (E:List EI):List Bool:=E.flatMap (MK wp wo)
theorem L3 (wp wo:Nat) (E:List EI):(EW wp wo E).length=E.length * (wp+wo):=by
 induction E with
 |nil=>simp [EW]
 |cons e E ih=>
  simp only [EW,List.flatMap_cons,jO,List.length_cons,MK,Bd] at ih ⊢;rw [ih,Nat.add_mul];omega
theorem PH (W0:World) (p:Nat) (L:List Bool) (wp wo:Nat) (E:List EI) (v:Value) (w:World) (h:Bb K W0 p L w) (hE:Bv W0 v E) (hok:∀e∈E,Fp e) (hlen:E.length≤65536) (h1:wp≤64) (h2:wo≤64) (hL:L.length≤1073741824):
  Calls Tryz.prog 214 #[.pointer (some ⟨p,0,none⟩),.agg #[.int .i64 (wp:Int),.int .i64 (wo:Int)],v] w (Ha K W0 p (L++EW wp wo E)):=by
 obtain ⟨ao,cap,rfl,hc⟩:=hE;obtain ⟨K1,hk1,hk2,hI'⟩:=h.box (.cells #[.int .i64 (wp:Int),.int .i64 (wo:Int)] 219) (fun cur e=>by injection e with _ e;revert e;decide);have HK1:=jp hk1;have HK2:=jp hk2;have HI0:=jp hI';have HOK:=jp hok
 have HLb:Hid (∀k,(EW wp wo (E.take k)).length≤8388608):=fun k=>by
  have h3:=List.length_take_le' k E;have h4:(E.take k).length * (wp+wo)≤65536 * 128:=Nat.mul_le_mul (by omega) (by omega);rw [L3];exact h4
 clear h hk1 hk2 hI' hok;go_enter Tryz.func214,Tryz.ntmps214;go_wp2_with fail;go_loopg [10] E.length (fun r n wr=>∃k:Nat,r=E.length - k∧k≤E.length∧n= .int .i64 k∧Bb K1 W0 p (L++EW wp wo (E.take k)) wr)
 case atStart=>exact ⟨0,by omega,by omega,rfl,by simpa [EW] using HI0.out⟩
 case round=>
  obtain ⟨k,hr,hk,rfl,hI⟩:=hrel;have HI:=jp hI;clear hI HI0;by_cases hlt:k<E.length
  ·obtain ⟨g,o,rfl,c0,c1⟩:=hc k hlt;have hBel:=HI.out.1;have c0':=hBel.cell c0;have c1':=hBel.cell c1;obtain ⟨e1,e2,e3,e4⟩:=HOK.out _ (jJ hlt);obtain ⟨LL,hLL⟩:∃LL,LL=L++EW wp wo (E.take k):=⟨_,rfl⟩
   have HS:Hid (L++EW wp wo (E.take (k+1))=(LL++Ax E[k].1.toNat wp)++Ax (Hk E[k].2) wo):=by
    show _=_;rw [hLL];simp only [EW];rw [jQ hlt,List.flatMap_append];simp [MK]
   have hll:LL.length≤1082130432:=by
    have:=HLb.out k;rw [hLL,jO];omega
   rw [←hLL] at HI;clear hLL
   have HU:IntKind.u64.wrap E[k].2=(Hk E[k].2:Int):=by
    rw [IntKind.wrap_u64];unfold Hk;omega
   have hu:Hk E[k].2<2 ^ 64:=by unfold Hk;omega
   generalize Hk E[k].2=x2 at *;generalize E[k].1=pt at *;generalize E[k].2=ow at *;obtain ⟨x1,rfl⟩:∃m:Nat,pt=(m:Int):=⟨pt.toNat,by omega⟩
   have hw0:(w.heap.size:Nat)<wr.heap.size:=by
    have:=HI.out.block HK1.out;rcases Nat.lt_or_ge w.heap.size wr.heap.size with h|h
    ·exact h
    ·rw [Array.getElem?_eq_none h] at this;cases this
   obtain ⟨K3,hk3,hk4,hI'⟩:=HI.out.box (.cells #[.int .u64 (x1:Int),.int .i64 ow] 116) (fun cur e=>by injection e with _ e;revert e;decide);have HK3:=jp hk3;have HK4:=jp hk4;have q0:=HI.out.cell HK1.out (j:=0) (u:= .int .i64 (wp:Int)) (by simp);have H1:=jp (Jv W0 p LL x1 wp _ hI' (by omega) (by omega) (by omega));clear hc c0 c1 hBel HLb HI hI' hk3 hk4;have hne:w.heap.size≠wr.heap.size:=by omega
   go_wp2_with fail;refine H1.out.mono ?_;rintro e w2 ⟨rfl,hI2⟩;have H2:=jp (Jv W0 p _ x2 wo w2 hI2 (by simp only [jO,Bd];omega) (by omega) hu);have a1:=hI2.cell HK3.out (j:=1) (u:= .int .i64 ow) (by simp);have q1:=hI2.cell (HK4.out _ _ HK1.out) (j:=1) (u:= .int .i64 (wo:Int)) (by simp);rw [←HU] at H2;clear hI2 H1 q0 HU;go_wp2_with fail;refine H2.out.mono ?_;rintro e w3 ⟨rfl,hI3⟩;have HI4:=jp (hI3.drop HK4.out);clear hI3 H2 a1 q1;go_wp2_with fail;go_roundg (E.length - (k+1))
   case measure=>omega
   case rel=>
    refine ⟨k+1,rfl,by omega,by go_num,?_⟩;rw [HS.out];exact HI4.out
  ·have HE:Hid (E.take k=E):=jR (by omega);clear hc HLb;go_wp2;go_end0;refine ⟨rfl,?_⟩;have:=HI.out.drop HK2.out;rw [HE.out] at this;exact this
def JG (f g:Nat) (c:Ac):List Bool:=((((((([]++Az [67,72])++Ax f (8 * 1))++Ax c.alg.toNat (8 * 1))++Ax g (8 * 4))++Ax c.slots.toNat (8 * 2))++Ax c.points.toNat (8 * 1))++Ax c.probes.toNat (8 * 1))++Az c.key.data.toList
def DS (f g:Nat) (c:Ac) (B:List BK) (E:List EI):List Bool:=((JG f g c++Gd B)++Ax E.length (8 * 2))++EW (CO c.alg) (CX f c.alg B.length) E
theorem Ph (f g:Nat) (c:Ac) (hk:c.key.size=16):(JG f g c).length=224:=by
 have:c.key.data.size=16:=hk;simp [JG,Bd,Bk,this]
theorem M7 {f g:Nat} {c:Ac} {B:List BK} {E:List EI} (hk:c.key.size=16) (hB:AL B) (hE:E.length≤65536):(DS f g c B E).length≤8389600:=by
 have h1:=Ph f g c hk;have h2:=KI hB;have h3:E.length * (CO c.alg+CX f c.alg B.length)≤65536 * 128:=Nat.mul_le_mul (by omega) (by have:=GJ c.alg;have:=Hs f c.alg B.length;omega);simp only [DS,jO,Bd,L3,h1];omega
theorem M9 (f g:Nat) (c:Ac) (B:List BK) (E:List EI) (vP vE:Value) (w:World) (hf:f≤4611686018427387904) (hg:g≤4611686018427387904) (hc:c.TOK) (hP:Am w vP B) (hB:AL B) (hE:Bv w vE E) (hok:∀e∈E,Fp e) (hlen:E.length≤65536):
  Calls Tryz.prog 173 #[.int .i64 (f:Int),.int .i64 (g:Int),DW c vP vE] w (DE w (AK (DS f g c B E))):=by
 obtain ⟨aP,capP,rfl, -⟩:=hP.open;obtain ⟨aE,capE,rfl, -⟩:=id hE;have h8:=hB.1;obtain ⟨t1,t2,t3,t4, -,t5,t6,t7,t8,t9⟩:=hc;have hbl:=M7 (f:=f) (g:=g) (E:=E) t9 hB hlen;have hhl:=Ph f g c t9;have hbk:=KI hB;obtain ⟨XB,hXB⟩:∃X,X=DS f g c B E:=⟨_,rfl⟩;have HXB:=jp hXB;rw [←hXB] at hbl ⊢;clear hXB;unfold DS JG at HXB;unfold JG at hhl;unfold DW;obtain ⟨alg,slots,points,probes,key,formats⟩:=c;simp only at *;obtain ⟨a,rfl⟩:∃m:Nat,alg=(m:Int):=⟨alg.toNat,by omega⟩;obtain ⟨sl,rfl⟩:∃m:Nat,slots=(m:Int):=⟨slots.toNat,by omega⟩;obtain ⟨pt,rfl⟩:∃m:Nat,points=(m:Int):=⟨points.toNat,by omega⟩;obtain ⟨pr,rfl⟩:∃m:Nat,probes=(m:Int):=⟨probes.toNat,by omega⟩;simp only [Int.toNat_natCast] at HXB hhl;obtain ⟨W0,hW0⟩:∃W0,W0=w.alloc (.cells #[.int .i64 (a:Int),.int .i64 (sl:Int),.int .i64 (pt:Int),.int .i64 (pr:Int),.string key,.int .i64 formats,.slice aP B.length capP,.slice aE E.length capE] 66):=⟨_,rfl⟩;have hsz:W0.heap.size=w.heap.size+1:=by rw [hW0];simp
 have hb0:Aa w W0:=by rw [hW0];exact (jD w).step_alloc _
 have q0:W0.cell? ⟨w.heap.size,0,none⟩=some (.int .i64 (a:Int)):=by rw [hW0];simp
 have q1:W0.cell? ⟨w.heap.size,1,none⟩=some (.int .i64 (sl:Int)):=by rw [hW0];simp
 have q2:W0.cell? ⟨w.heap.size,2,none⟩=some (.int .i64 (pt:Int)):=by rw [hW0];simp
 have q3:W0.cell? ⟨w.heap.size,3,none⟩=some (.int .i64 (pr:Int)):=by rw [hW0];simp
 have q4:W0.cell? ⟨w.heap.size,4,none⟩=some (.string key):=by rw [hW0];simp
 have q6:W0.cell? ⟨w.heap.size,6,none⟩=some (.slice aP B.length capP):=by rw [hW0];simp
 have q7:W0.cell? ⟨w.heap.size,7,none⟩=some (.slice aE E.length capE):=by rw [hW0];simp
 have HP:=jp (hP.later hb0);have HE:=jp (hE.later hb0);have HOK:=jp hok;have HPB:=jp hB;have hI0:=Bb.new W0 149;rw [hsz] at hI0;have H0:=jp (Gh W0 (w.heap.size+1) [] ⟨#[67,72]⟩ _ hI0 (by simp [ByteArray.size]));have hks:key.data.toList.length=16:=by rw [Array.length_toList];exact t9
 have hkd:key.data.size=16:=t9;clear hI0 hP hE hok hB;go_enter Tryz.func173,Tryz.ntmps173;go_wp2_with fail;rw [←hW0];refine H0.out.mono ?_;rintro e w1 ⟨rfl,hI⟩;clear H0;have H1:=jp (Cb W0 (w.heap.size+1) _ f 1 _ hI (by simp [Bk]) (by omega) (by omega));clear hI;go_wp2_with fail;refine H1.out.mono ?_;rintro e w2 ⟨rfl,hI⟩;clear H1;have H2:=jp (Cb W0 (w.heap.size+1) _ a 1 _ hI (by simp [Bk,Bd]) (by omega) (by omega));have x1:=hI.1.cell q0;clear hI;go_wp2_with fail;refine H2.out.mono ?_;rintro e w3 ⟨rfl,hI⟩;clear H2 x1;have H3:=jp (Cb W0 (w.heap.size+1) _ g 4 _ hI (by simp [Bk,Bd]) (by omega) (by omega));clear hI;go_wp2_with fail;refine H3.out.mono ?_;rintro e w4 ⟨rfl,hI⟩;clear H3;have H4:=jp (Cb W0 (w.heap.size+1) _ sl 2 _ hI (by simp [Bk,Bd]) (by omega) (by omega));have x3:=hI.1.cell q1;clear hI;go_wp2_with fail;refine H4.out.mono ?_;rintro e w5 ⟨rfl,hI⟩;clear H4 x3;have H5:=jp (Cb W0 (w.heap.size+1) _ pt 1 _ hI (by simp [Bk,Bd]) (by omega) (by omega));have x4:=hI.1.cell q2;clear hI;go_wp2_with fail;refine H5.out.mono ?_;rintro e w6 ⟨rfl,hI⟩;clear H5 x4;have H6:=jp (Cb W0 (w.heap.size+1) _ pr 1 _ hI (by simp [Bk,Bd]) (by omega) (by omega));have x5:=hI.1.cell q3;clear hI;go_wp2_with fail;refine H6.out.mono ?_;rintro e w7 ⟨rfl,hI⟩;clear H6 x5;have H7:=jp (Gh W0 (w.heap.size+1) _ key _ hI (by simp [Bk,Bd];omega));have x6:=hI.1.cell q4;clear hI;go_wp2_with fail;refine H7.out.mono ?_;rintro e w8 ⟨rfl,hI⟩;clear H7 x6;generalize hHD:((((((([]++Az [67,72])++Ax f (8 * 1))++Ax a (8 * 1))++Ax g (8 * 4))++Ax sl (8 * 2))++Ax pt (8 * 1))++Ax pr (8 * 1))++Az key.data.toList=HD at *;clear hHD;have H8:=jp (Qc W0 (w.heap.size+1) _ B _ _ hI HP.out HPB.out (by omega));have x8:=hI.1.cell q6;clear hI;go_wp2_with fail;refine H8.out.mono ?_;rintro e w9 ⟨rfl,hI⟩;clear H8 x8;have H9:=jp (Cb W0 (w.heap.size+1) _ E.length 2 _ hI (by simp only [jO];omega) (by omega) (by omega));have x9:=hI.1.cell q7;clear hI;go_wp2_with fail;refine H9.out.mono ?_;rintro e w10 ⟨rfl,hI⟩;clear H9 x9;have HI:=jp hI;have y0:=hI.1.cell q0;have y6:=hI.1.cell q6;have y7:=hI.1.cell q7;have hwd:=fun wx=>J5 (f:Int) (a:Int) B.length wx h8
 unfold IG at hwd;have hwo:=Hs (f:Int) (a:Int) B.length;have hwp:=GJ (a:Int);generalize CO (a:Int)=wp at *;generalize CX (f:Int) (a:Int) B.length=wo at *;have hpe:=fun wx hx=>PH (K:=fun _=>none) W0 (w.heap.size+1) ((HD++Gd B)++Ax E.length (8 * 2)) wp wo E (.slice aE E.length capE) wx hx HE.out HOK.out hlen (by omega) (by omega) (by simp only [jO,Bd];omega)
 clear hI;go_wp2_with fail
 go_region_with (first
   | (go_at_call 192
      refine (hwd _).mono ?_
      rintro e w11 ⟨rfl, hb11x⟩
      have hb11 : Aa w10 w11 := by first | exact hb11x | exact (jB (jD w10)).trans hb11x
      have HI11 := jp (HI.out.later hb11)
      have z7 := hb11.cell y7
      have z0 := hb11.cell y0
      have z6 := hb11.cell y6
      clear hb11x hb11 hwd)
   | (go_at_call 214
      refine (hpe _ (by first | exact HI11.out | exact HI11.out.later (jB (jD _)))).mono ?_
      rintro e w12 ⟨rfl, hI12⟩
      have HI12 := jp hI12
      clear hI12 hpe))
 all_goals
  have hd:=Ij W0 (w.heap.size+1) _ _ HI12.out (by rw [←HXB.out];omega);rw [←HXB.out] at hd;have HD9:=jp hd;clear hd;go_wp2_with fail;refine HD9.out.mono ?_;rintro e w13 ⟨rfl,hI13⟩;have HB13:=jp (hb0.trans hI13.1);clear hI13 HD9;generalize AK XB=PB at *;go_wp2;go_ret;exact ⟨rfl,HB13.out⟩
end Go.Proofs.YtpapdkhjdelfcabGreat
