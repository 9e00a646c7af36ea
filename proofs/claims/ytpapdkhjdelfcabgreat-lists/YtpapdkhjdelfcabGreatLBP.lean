import Derived.Test.YtpapdkhjdelfcabGreatLAY
import Derived.Test.YtpapdkhjdelfcabGreatLBH
import Derived.Test.YtpapdkhjdelfcabGreatLBN
import Derived.Deep.AppendLies
namespace Go.Proofs.YtpapdkhjdelfcabGreat
open Go.RowKit
set_option maxRecDepth 100000
set_option maxHeartbeats 4000000
def DA (c:Int) (n:Int):Int:=(if c<0 then -(c+1) else c) % n
theorem FQ (c n:Int) (hn:0<n):0≤DA c n∧DA c n<n:=⟨Int.emod_nonneg _ (by omega),Int.emod_lt_of_pos _ hn⟩
theorem FJ (c n:Int) (w:World) (hc:Aj c) (hn:0<n) (hn2:n≤4611686018427387904):
  Calls Tryz.prog 47 #[.int .i64 c,.int .i64 n] w fun e w'=>e= .returned (.int .i64 (DA c n))∧w=w':=by
 obtain ⟨h1,h2⟩:=hc;have hnz:(n==0)=false:=by rw [jI];omega
 by_cases hneg:c<0
 ·have HX:Hid (DA c n=(-(c+1)) % n):=by show DA c n=_;rw [DA,if_pos hneg]
  generalize DA c n=X at *;go_enter Tryz.func47,Tryz.ntmps47;go_wp2;go_ret;exact ⟨BO (by rw [HX.out,←Int.neg_tmod,Int.tmod_eq_emod_of_nonneg (by omega)]),rfl⟩
 ·have HX:Hid (DA c n=c % n):=by show DA c n=_;rw [DA,if_neg hneg]
  generalize DA c n=X at *;go_enter Tryz.func47,Tryz.ntmps47;go_wp2;go_ret;exact ⟨BO HX.out.symm,rfl⟩
theorem Px {w:World} {v:Value} {L:List ByteArray} (h:Ap w v L.length (L.map Value.string)):∃ao cap,v= .slice ao L.length cap∧∀j (hj:j<L.length),∃g,ao=some ⟨g,0,none⟩∧w.cell? ⟨g,j,none⟩=some (.string L[j]):=by
 rcases h with ⟨h1,h2,_⟩|⟨g,cap,hv,hn,hg,hc⟩
 ·exact ⟨none,0,by rw [h1,h2],fun j hj=>by omega⟩
 ·exact ⟨_,cap,hv,fun j hj=>⟨g,rfl,hc j _ (by simp [hj])⟩⟩
theorem LQ (X Y:List ByteArray) (vx vy:Value) (w:World) (hx:Ap w vx X.length (X.map Value.string)) (hy:Ap w vy Y.length (Y.map Value.string)) (hl:X.length≤65536) (hl2:Y.length≤65536):
  Calls Tryz.prog 56 #[vx,vy] w (Ew w (Co (X=Y))):=by
 obtain ⟨ax,cx,rfl,hcx⟩:=Px hx;obtain ⟨ay,cy,rfl,hcy⟩:=Px hy;obtain ⟨Pr,hPr⟩:∃Pr:Prop,Pr=(X=Y):=⟨_,rfl⟩;rw [←hPr];have HPr:=jp hPr;clear hPr hx hy;by_cases hlen:X.length=Y.length
 rotate_left
 ·have hlb:((X.length:Int) !=(Y.length:Int))=true:=by rw [bne_iff_ne];omega
  clear hcx hcy;go_enter Tryz.func56,Tryz.ntmps56;go_wp2;go_ret;exact ⟨_,rfl,jD _,⟨fun h=>(by cases h),fun h=>(by rw [HPr.out] at h;exact absurd (congrArg List.length h) hlen)⟩⟩
 have hlb:((X.length:Int) !=(Y.length:Int))=false:=by rw [jc];omega
 have HL:=jp hlen;clear hlen;go_enter Tryz.func56,Tryz.ntmps56;go_wp2;go_loopg [5] X.length (fun r n wr=>Aa w wr∧∃k:Nat,r=X.length - k∧k≤X.length∧n= .int .i64 k∧∀j (h1:j<X.length) (h2:j<Y.length),j<k→X[j]=Y[j])
 case atStart=>exact ⟨jD _,0,by omega,by omega,rfl,fun j _ _ h=>by omega⟩
 case round=>
  obtain ⟨hb,k,hr,hk,rfl,hall⟩:=hrel;have HA:=jp hall;clear hall;by_cases hlt:k<X.length
  ·have hlt2:k<Y.length:=by have:=HL.out;omega
   obtain ⟨gx,rfl,x0⟩:=hcx k hlt;obtain ⟨gy,rfl,y0⟩:=hcy k hlt2;have x0':=hb.cell x0;have y0':=hb.cell y0;clear hcx hcy x0 y0
   have hstep:Hid (X[k]=Y[k]→∀j (h1:j<X.length) (h2:j<Y.length),j<k+1→X[j]=Y[j]):=fun e j h1 h2 hj=>by
    by_cases he:j=k
    ·subst he;exact e
    ·exact HA.out j h1 h2 (by omega)
   have hno:Hid (X[k]≠Y[k]→¬Pr):=fun h hp=>by
    rw [HPr.out] at hp;subst hp;exact h rfl
   have HE:Hid (((X[k].toList==Y[k].toList)=true)↔X[k]=Y[k]):=FE;generalize X[k]=xk at *;generalize Y[k]=yk at *;cases heq:xk.toList==yk.toList
   ·have hbad:=jp (hno.out (fun e=>by rw [HE.out.2 e] at heq;cases heq));go_wp2_with fail;go_quiet (fail);go_wp2;go_ret;exact ⟨_,rfl,by solve_by_elim [jA,jB,jC,jD,jE],⟨fun h=>(by cases h),fun h=>absurd h hbad.out⟩⟩
   ·have hgood:=jp (hstep.out (HE.out.1 heq));go_wp2_with fail;go_quiet (fail);go_wp2;go_roundg (X.length - (k+1))
    case measure=>omega
    case rel=>exact ⟨by solve_by_elim [jA,jB,jC,jD,jE],k+1,rfl,by omega,by go_num,hgood.out⟩
  ·have hfin:Hid Pr:=by
    show Pr;rw [HPr.out];exact List.ext_getElem HL.out (fun j h1 h2=>HA.out j h1 h2 (by omega))
   clear hcx hcy
   go_wp2
   go_ret
   exact ⟨_,rfl,hb,⟨fun _=>hfin.out,fun _=>rfl⟩⟩
def NZ (w:World) (e:Ending) (w':World):Prop:=∃t:ByteArray,e= .returned (.string t)∧Aa w w'∧t.size≤16777216
def JJ (w:World) (e:Ending) (w':World):Prop:=∃(t:ByteArray) (n:Int),e= .returned (.tuple #[.string t,.int .i64 n])∧Aa w w'∧t.size≤16777216
def NP (w:World) (e:Ending) (w':World):Prop:=∃g n:Int,e= .returned (.tuple #[.int .i64 g,.int .i64 n])∧Aa w w'
def RH (w:World) (e:Ending) (w':World):Prop:=∃(t:ByteArray) (n:Int),e= .returned (.tuple #[.string t,.int .i64 n])∧Aa w w'
def YM (w:World) (e:Ending) (w':World):Prop:=∃(s t:ByteArray) (g n:Int),e= .returned (.tuple #[.string s,.string t,.int .i64 g,.int .i64 n])∧Aa w w'
theorem DE.loose {w:World} {l:List UInt8} {e:Ending} {w':World} (h:DE w l e w') (hl:l.length≤16777216):NZ w e w':=⟨_,h.1,h.2,by rw [NG];exact hl⟩
theorem Ff.loose {w:World} {x:List UInt8×Int} {e:Ending} {w':World} (h:Ff w x e w') (hl:x.1.length≤16777216):JJ w e w':=⟨_,_,h.1,h.2,by rw [NG];exact hl⟩
theorem F4.loose {w:World} {x:Int×Int} {e:Ending} {w':World} (h:F4 w x e w'):NP w e w':=⟨_,_,h.1,h.2⟩
theorem XS (M:List Nat) (q:Nat) (c:Ac) (B:List BK) (g:Nat) {L:List Nat} {ps:List (Nat×AF×List Nat)} (f:Int) (w:World) (hS:AG M q ⟨c,B,(g:Int),L,ps⟩ w) (hE:(An c B).length≤65536) (hc:c.OK) (hB:AL B) (hg:g≤4611686018427387904):
  Calls Tryz.prog 99 #[.pointer (some ⟨q,0,none⟩),.int .i64 f] w (JJ w):=
 (Tj M q c B g f w hS hE hc hB hg).mono fun _ _ h=>h.loose (Yh ((Ac.ok_iff c).1 hc).1 hB hE)
theorem QW (M:List Nat) (q:Nat) (c:Ac) (B:List BK) (g:Nat) {L:List Nat} {ps:List (Nat×AF×List Nat)} (t:ByteArray) (w:World) (hS:AG M q ⟨c,B,(g:Int),L,ps⟩ w) (hE:(An c B).length≤65536) (hc:c.OK) (hB:AL B) (hg:g≤4294967296) (ht:t.size≤1099511627776):
  Calls Tryz.prog 30 #[.pointer (some ⟨q,0,none⟩),.string t] w (NZ w):=
 (Uq M q c B g t w hS hE hc hB hg ht).mono fun _ _ h=>h.loose (Tq ..)
theorem Tu {M:List Nat} {s:Nat} {x:AT} {w:World} (d:Int) (h:AG M s x w):
  Calls Tryz.prog 29 #[.pointer (some ⟨s,0,none⟩),.int .i64 d] w (JJ w):=by
 by_cases hd:0≤d∧d<x.ps.length
 ·obtain ⟨n,rfl⟩:=jM hd.1;exact (XD h (by omega)).mono fun _ _ h=>h.loose (Q6 ..)
 ·exact (Sb s d w ((h.dp d).2 (by omega))).mono fun _ _ h=>h.loose (by decide)
theorem RW {M:List Nat} {s:Nat} {x:AT} {w:World} (d:Int) (h:AG M s x w):
  Calls Tryz.prog 32 #[.pointer (some ⟨s,0,none⟩),.int .i64 d] w (NP w):=by
 by_cases hd:0≤d∧d<x.ps.length
 ·obtain ⟨n,rfl⟩:=jM hd.1;exact (TZ h (by omega)).mono fun _ _ h=>h.loose
 ·exact (UK s d w ((h.dp d).2 (by omega))).mono fun _ _ h=>h.loose
theorem XR {M:List Nat} {s:Nat} {x:AT} {w:World} (d:Int) (k:ByteArray) (h:AG M s x w) (hk:k.size≤4611686018427386000):
  Calls Tryz.prog 33 #[.pointer (some ⟨s,0,none⟩),.int .i64 d,.string k] w (RH w):=by
 by_cases hd:0≤d∧d<x.ps.length
 ·obtain ⟨n,rfl⟩:=jM hd.1;exact (YC h (by omega) k hk).mono fun _ _ h=>⟨_,_,h.1,h.2⟩
 ·exact (Vu s d k w ((h.dp d).2 (by omega))).mono fun _ _ h=>⟨_,_,h.1,h.2⟩
theorem VS {M:List Nat} {s:Nat} {x:AT} {w:World} (d:Int) (t:ByteArray) (h:AG M s x w) (hd:¬(0≤d∧d<x.ps.length)):
  Calls Tryz.prog 31 #[.pointer (some ⟨s,0,none⟩),.int .i64 d,.string t] w (KM w 4):=UA s d t w ((h.dp d).2 (by omega))
theorem YO {M:List Nat} {s:Nat} {x:AT} {w:World} (d:Int) (h:AG M s x w) (hd:¬(0≤d∧d<x.ps.length)):
  Calls Tryz.prog 78 #[.pointer (some ⟨s,0,none⟩),.int .i64 d] w (KM w 4):=VM s d w ((h.dp d).2 (by omega))
theorem Ti (t:ByteArray) (w:World) (ht:t.size≤1099511627776):Calls Tryz.prog 89 #[.string t] w (YM w):=(Sh t w ht).mono fun _ _ h=>⟨_,_,_,_,h.1,h.2⟩
theorem WT (t u:ByteArray) (w:World) (ht:t.size≤1099511627776) (hu:u.size≤1099511627776):Calls Tryz.prog 91 #[.string t,.string u] w (JJ w):=(XU t u w ht hu).mono fun _ _ h=>h.loose (QQ ..)
theorem Uo (t u:ByteArray) (w:World) (ht:t.size≤1099511627776) (hu:u.size≤1099511627776):Calls Tryz.prog 93 #[.string t,.string u] w (JJ w):=(QE t u w ht hu).mono fun _ _ h=>h.loose (Rb ..)
theorem WY (c:Ac) (w:World) (hc:¬c.OK):Calls Tryz.prog 23 #[.agg c.cells] w fun e w'=>e= .returned (.tuple #[.pointer none,.int .i64 1])∧Aa w w':=by
 have hcf:=fun wx=>OI c wx
 have HC:=jp hc;clear hc;obtain ⟨alg,slots,points,probes,key,formats⟩:=c;simp only [Ac.cells] at *;go_enter Tryz.func23,Tryz.ntmps23;go_wp2_with fail;refine (hcf _).mono ?_;rintro e w1 ⟨x,rfl,hb1,hx⟩;have hbw:Aa w w1:=(Aa.step_alloc (jD w) _).trans hb1;cases x
 ·clear hcf hx hb1;go_wp2;go_ret2;exact ⟨rfl,hbw⟩
 ·exact absurd (hx.1 rfl) HC.out
def Cz (p:Nat) (L:List Value) (w:World):Prop:=(∀o u,L[o]?=some u→w.cell? ⟨p,o,none⟩=some u)∧∀o,o<L.length→w.frozen? ⟨p,o,none⟩=false
theorem Cz.but {M:List Nat} {p:Nat} {L:List Value} {w w':World} (h:Cz p L w) (k:Ab M w w') (hp:p∉M):Cz p L w':=
 ⟨fun o u hu=>k.cell (h.1 o u hu) hp,fun o ho=>k.frozen (h.1 o L[o] (by simp [ho])) hp (h.2 o ho)⟩
structure Au where
 p:Nat
 speaks:Int
 has:Value
 gen:Int
 format:Int
 got:Value
 ng:Nat
 no:Bool
def Au.blocks (x:Au):List Nat:=x.p::x.got.ownBlock.toList
def Au.At (M:List Nat) (x:Au) (w:World):Prop:=BX w x.p x.speaks x.has x.gen x.format x.got x.no∧(0≤x.speaks∧x.speaks≤3)∧Aj x.gen∧Aj x.format∧Di w x.got x.ng∧x.ng≤65535∧(∃hg,Do (Ay M w) x.has hg)∧∀g,x.got.ownBlock=some g→g≠x.p
structure Ah where
 a:Nat
 q:Nat
 c:Ac
 B:List BK
 g:Int
 vb:Value
 vs:Value
 vp:Value
 ps:List Au
 L:List Nat
 pp:List (Nat×AF×List Nat)
def Ah.svp (x:Ah):AT:=⟨x.c,x.B,x.g,x.L,x.pp⟩
def Ah.blocks (x:Ah):List Nat:=x.a::x.q::((x.vp.ownBlock.toList++x.ps.flatMap Au.blocks)++(x.L++Bh x.pp))
theorem Ah.own_in (x:Ah) {j:Nat} (h:j∈x.svp.own x.q):j∈x.blocks:=by
 unfold AT.own Ah.svp at h;unfold Ah.blocks;simp only [ja,jT] at h ⊢;rcases h with h|h|h
 ·exact Or.inr (Or.inl h)
 ·exact Or.inr (Or.inr (Or.inr (Or.inl h)))
 ·exact Or.inr (Or.inr (Or.inr (Or.inr h)))
def Ah.cells (x:Ah):List Value:=[.pointer (some ⟨x.q,0,none⟩),.int .i64 x.c.alg,.int .i64 x.c.slots,.int .i64 x.c.points,.int .i64 x.c.probes,.string x.c.key,.int .i64 x.c.formats,x.vb,x.vs,x.vp]
def Ah.At (base:Nat) (M:List Nat) (x:Ah) (w:World):Prop:=Cz x.a x.cells w∧AG M x.q x.svp w∧Am (Ay M w) x.vb x.B∧AH x.B∧x.c.OK∧(0≤x.g∧x.g≤70000∧(x.g=0→x.B=[]))∧DQ (Ay M w) x.vs x.c x.B x.g∧
 w.ownsRow base 134 1 x.vp x.ps.length (x.ps.map fun y=>Value.pointer (some ⟨y.p,0,none⟩))∧x.ps.length≤4∧∀y∈x.ps,y.At M w
structure GA where
 g1:Nat
 g2:Nat
 T:List ByteArray
theorem Do.masks {M N:List Nat} {w w':World} {v:Value} {gen:Int} (h:Do (Ay M w) v gen) (k:Ab N w w') (hN:∀j∈N,j∈M∨w.heap.size≤j):Do (Ay M w') v gen:=h.later (k.mono hN)
theorem DQ.masks {M N:List Nat} {w w':World} {v:Value} {c:Ac} {B:List BK} {gen:Int} (h:DQ (Ay M w) v c B gen) (k:Ab N w w') (hN:∀j∈N,j∈M∨w.heap.size≤j):DQ (Ay M w') v c B gen:=h.later (k.mono hN)
theorem Au.At.but {M N:List Nat} {x:Au} {w w':World} (h:x.At M w) (k:Ab N w w') (hN:∀j∈N,j∈M∨w.heap.size≤j) (hd:∀j∈x.blocks,j∉N):x.At M w':=by
 obtain ⟨⟨⟨h0,h1,h2,h3,h4,h5⟩,hf⟩,r1,r2,r3,r4,r5,⟨hg,r6⟩,r7⟩:=h;have hp:x.p∉N:=hd x.p (by simp [Au.blocks]);refine ⟨⟨⟨k.cell h0 hp,k.cell h1 hp,k.cell h2 hp,k.cell h3 hp,k.cell h4 hp,k.cell h5 hp⟩,fun j=>?_⟩,r1,r2,r3,?_,r5,⟨hg,r6.masks k hN⟩,r7⟩
 ·rw [World.frozen?_of_block (w:=w) (k.block x.p (jF h0) hp)];exact hf j
 ·rcases r4 with r4|⟨g,cap,hv,hgl,hc⟩
  ·exact Or.inl r4
  ·have hgn:g∉N:=hd g (by simp [Au.blocks,hv,Value.ownBlock]);refine Or.inr ⟨g,cap,hv,jN hgl k.size,fun j hj=>?_⟩;obtain ⟨s,s1,s2,s3⟩:=hc j hj;exact ⟨s,k.cell s1 hgn,k.frozen s1 hgn s2,s3⟩
theorem AY {M:List Nat} {base:Nat} {e:TypeId} {sz:Nat} {v:Value} {n:Nat} {xs:List Value} {w w':World} (h:w.ownsRow base e sz v n xs) (b:Ab M w w') (hne:∀g,v.ownBlock=some g→g∉M):w'.ownsRow base e sz v n xs:=by
 refine ⟨h.1,?_⟩;rcases h.2 with h1|⟨g,cap,cur,hv,hg,hh,r⟩
 ·exact Or.inl h1
 ·exact Or.inr ⟨g,cap,cur,hv,hg,by rw [b.block g (Array.getElem?_eq_some_iff.1 hh).1 (hne g (by rw [hv];rfl))];exact hh,r⟩
theorem Ah.At.but {base:Nat} {M N:List Nat} {x:Ah} {w w':World} (h:x.At base M w) (k:Ab N w w') (hN:∀j∈N,j∈M∨w.heap.size≤j) (hd:∀j∈x.blocks,j∉N):x.At base M w':=by
 obtain ⟨h1,h2,h3,h4,h5,h6,h7,h8,h9,h10⟩:=h;have hm:Aa (Ay M w) (Ay M w'):=k.mono hN;refine ⟨h1.but k (hd _ (by simp [Ah.blocks])),h2.but k (fun j hj e=>hd j (x.own_in e) hj) hN,h3.later hm,h4,h5,h6,h7.later hm,AY h8 k (fun g hg=>hd g (by simp [Ah.blocks,hg])),h9,fun y hy=>(h10 y hy).but k hN (fun j hj=>hd j ?_)⟩;simp only [Ah.blocks,ja,jT,jd];exact Or.inr (Or.inr (Or.inl (Or.inr ⟨y,hy,hj⟩)))
theorem IW {w w':World} {row:Option Nat} (h:w.grownBy w' row):Ab row.toList w w':=
 Ab.mk h.os h.tape h.output h.size (fun k hk hm=>h.block k hk (fun e=>hm (by rw [←e];simp)))
theorem Lq (base p n:Nat) (vf:Value) (xs:List Value) (S:ByteArray) (w:World) (c7:w.cell? ⟨p,7,none⟩=some vf) (f7:w.frozen? ⟨p,7,none⟩=false) (hrow:w.ownsRow base 9 1 vf n xs) (hn:n≤200000) (hb:base≤w.heap.size) (hvp:vf.ownBlock≠some p):
  Calls Tryz.prog 53 #[.pointer (some ⟨p,0,none⟩),.string S] w fun e w'=>e= .returned (.tuple #[])∧∃g cap w1,Ab vf.ownBlock.toList w w1∧w'=w1.setCell ⟨p,7,none⟩ (sl g (n+1) cap)∧w1.ownsRow base 9 1 (sl g (n+1) cap) (n+1) (xs++[.string S])∧(vf.ownBlock=some g∨w.heap.size≤g):=by
 obtain ⟨i0,hi,hz0,hz1,hz2⟩:=info_parts Tryz.infoStr;have HR:=jp hrow;have hplt:=jF c7;clear hrow;go_enter Tryz.func53,Tryz.ntmps53;go_wp2_with (first|(at_builtin;refine wpList_append_lies _ rfl _ _ 40 rfl base 9 i0 (.string ByteArray.empty) 1 16 Tryz.underlying40 hi hz0 hz1 hz2 rfl (by decide) _ n xs rfl ?p1 ⟨w.heap.size,0,none⟩ 1 1 [.string S] rfl rfl ?d1 ?d2 (by decide) ?d3 ?d4 ?d5 _ rfl ?_))
 case p1=>exact World.ownsRow.alloc HR.out _
 try (case d1=>exact Fz _ _ _ _ (by simp))
 case d2=>first|rfl|(intro u hu;simp at hu;subst hu;rfl)
 case d3=>unfold maxLen;omega
 case d4=>omega
 case d5=>first|omega|(simp;omega)
 intro g cap w3 hown3 hgrow3 hat3 hlt3;have b3:Ab vf.ownBlock.toList w w3:=(Ab.of_bel (Aa.step_alloc (jD w) _)).trans (IW hgrow3);have hpn:p∉vf.ownBlock.toList:=fun h=>hvp (by simpa using h)
 have x7:=b3.cell c7 hpn;have y7:=b3.frozen c7 hpn f7;have HO:=jp hown3;have hg:Hid (vf.ownBlock=some g∨w.heap.size≤g):=hat3.imp id (fun e=>by first|omega|(rw [e];simp));clear hown3 hgrow3 hat3;go_wp2;go_end0;exact ⟨rfl,g,cap,w3,b3,rfl,HO.out,hg.out⟩
def Xu (H:List ByteArray) (w:World) (e:Ending) (w':World):Prop:=∃s,e= .returned (.string s)∧Aa w w'∧(s=ByteArray.empty∨s∈H)
theorem QI (base p n:Nat) (vh:Value) (H:List ByteArray) (a:Int) (w:World) (c7:w.cell? ⟨p,7,none⟩=some vh) (hrow:w.ownsRow base 9 1 vh n (H.map Value.string)) (hn:n≤200000) (ha:Aj a):
  Calls Tryz.prog 52 #[.pointer (some ⟨p,0,none⟩),.int .i64 a] w (Xu H w):=by
 obtain ⟨ao,cap,rfl⟩:=CP hrow;have hl:H.length=n:=by have:=hrow.1;simpa using this
 by_cases h0:n=0
 ·subst h0;clear hrow;go_enter Tryz.func52,Tryz.ntmps52;go_wp2;go_ret;exact ⟨_,rfl,jD _,Or.inl rfl⟩
 have hne:((n:Int)==0)=false:=by rw [jI];omega
 have hpk:=fun wx=>FJ a n wx ha (by omega) (by omega)
 obtain ⟨h1,h2⟩:=FQ a n (by omega);obtain ⟨m,hm⟩:=jM h1;rw [hm] at hpk h2;have hml:m<n:=by omega
 have hmH:m<H.length:=by omega
 obtain ⟨g,cap',hv, -, -⟩:=World.ownsRow.form hrow (by omega);simp only [Value.slice.injEq,true_and] at hv;obtain ⟨rfl,rfl⟩:=hv;have hx:w.cell? ⟨g,m,none⟩=some (.string (H[m]'hmH)):=(World.ownsRow.cellAt hrow m (by omega)).trans (by rw [List.getElem?_map,jG (by omega)];rfl);have HM:Hid (H[m]'hmH∈H):=jJ _;clear hrow h1 h2 hm;generalize H[m]'hmH=s at *;go_enter Tryz.func52,Tryz.ntmps52;go_wp2_with fail;go_quiet ((go_at_call 47;refine Calls.quiet_of_same ((hpk _).mono fun e w2 h=>⟨h.1,h.2.symm⟩)));go_wp2;go_ret;exact ⟨_,rfl,by solve_by_elim [jA,jB,jC,jD,jE],Or.inr HM.out⟩
def Sa (p:Nat) (v:Int) (w:World) (e:Ending) (w':World):Prop:=e= .returned (.tuple #[])∧∃o,(o=0∨o=1∨o=2∨o=3∨o=5)∧w'=w.setCell ⟨p,o,none⟩ (.int .i64 v)
theorem Rz (p:Nat) (L:List Value) (k v:Int) (w:World) (h:Cz p L w) (hL:6≤L.length) (hk0:0≤k) (hk4:k<5):
  Calls Tryz.prog 85 #[.pointer (some ⟨p,0,none⟩),.int .i64 k,.int .i64 v] w (Sa p v w):=by
 have c0:=h.1 0 L[0] (by simp);have c1:=h.1 1 L[1] (by simp);have c2:=h.1 2 L[2] (by simp);have c3:=h.1 3 L[3] (by simp);have c5:=h.1 5 L[5] (by simp);have f0:=h.2 0 (by omega);have f1:=h.2 1 (by omega);have f2:=h.2 2 (by omega);have f3:=h.2 3 (by omega);have f5:=h.2 5 (by omega);clear h;generalize L[0]=u0 at *;generalize L[1]=u1 at *;generalize L[2]=u2 at *;generalize L[3]=u3 at *;generalize L[5]=u5 at *;rcases (show k=0∨k=1∨k=2∨k=3∨k=4 by omega) with rfl|rfl|rfl|rfl|rfl
 all_goals
  go_enter Tryz.func85,Tryz.ntmps85;go_wp2;go_end0;exact ⟨rfl,_,by simp,rfl⟩
theorem Cz.later {p:Nat} {L:List Value} {w w':World} (h:Cz p L w) (k:Aa w w'):Cz p L w':=h.but (M:=[]) (Ab.of_bel k) (by simp)
theorem Cz.set {p:Nat} {L:List Value} {w:World} (h:Cz p L w) (o:Nat) (u:Value):Cz p (L.set o u) (w.setCell ⟨p,o,none⟩ u):=by
 refine ⟨fun j x hx=>?_,fun j hj=>by rw [Ag];exact h.2 j (by simpa using hj)⟩;by_cases hjo:o=j
 ·subst hjo;have hl:=(List.getElem?_eq_some_iff.1 hx).1;rw [List.length_set] at hl;rw [List.getElem?_set_self hl] at hx;cases hx;exact Bc (h.1 o L[o] (by simp [hl]))
 ·rw [List.getElem?_set_ne hjo] at hx;rw [Ad (Or.inr hjo)];exact h.1 j x hx
structure WG where
 p:Nat
 M:List Nat
 c:Ac
 vl:Value
 vh:Value
 vls:Value
 vlw:Value
 prs:List Ah
 H:List ByteArray
 lss:List GA
def WG.cells (x:WG):List Value:=[.int .i64 x.c.alg,.int .i64 x.c.slots,.int .i64 x.c.points,.int .i64 x.c.probes,.string x.c.key,.int .i64 x.c.formats,x.vl,x.vh,x.vls,x.vlw]
def WG.blocks (x:WG):List Nat:=x.p::(x.vl.ownBlock.toList++x.vh.ownBlock.toList++x.vls.ownBlock.toList++x.vlw.ownBlock.toList++x.lss.flatMap (fun l=>[l.g1,l.g2])++x.prs.flatMap Ah.blocks)
def GA.At (base:Nat) (l:GA) (w:World):Prop:=w.ownsRow base 9 1 (sl l.g1 l.T.length l.T.length) l.T.length (l.T.map Value.string)∧w.ownsRow base 9 1 (sl l.g2 l.T.length l.T.length) l.T.length (l.T.map Value.string)∧l.T.length≤65536
structure Aw where
 W:World
 ex:List (Nat×Int)
abbrev Aw.heap (b:Aw):Array Obj:=b.W.heap
def F8 (W0:Aw) (M:List Nat) (w:World):Prop:=Aa W0.W w∧∀e∈W0.ex,e.1∉M∧e.1<w.heap.size∧w.cell? ⟨e.1,0,none⟩=some (.int .i64 e.2)
theorem F8.size {W0:Aw} {M:List Nat} {w:World} (h:F8 W0 M w):W0.heap.size≤w.heap.size:=h.1.size
theorem F8.trans {W0:Aw} {M:List Nat} {w w':World} (h:F8 W0 M w) (b:Aa w w'):F8 W0 M w':=⟨h.1.trans b,fun e he=>⟨(h.2 e he).1,jN (h.2 e he).2.1 b.size,b.cell (h.2 e he).2.2⟩⟩
theorem Ab.belX {N M M':List Nat} {W0:Aw} {w w':World} (h:F8 W0 M w) (hb:Ab N w w') (hm:∀j∈N,W0.heap.size≤j) (hN:∀j∈N,j∈M) (hM:∀j∈M',j∈M∨w.heap.size≤j):F8 W0 M' w':=by
 refine ⟨Ab.belTo h.1 hb hm,fun e he=>?_⟩;obtain ⟨h1,h2,h3⟩:=h.2 e he;exact ⟨fun hc=>(hM _ hc).elim h1 (fun h4=>by omega),jN h2 hb.size,hb.cell h3 (fun hc=>h1 (hN _ hc))⟩
def Ao (W0:Aw) (s:Nat) (x:WG) (w:World):Prop:=Cz x.p x.cells w∧F8 W0 x.M w∧x.blocks.Nodup∧(∀j∈x.blocks,j∈x.M)∧(∀j∈x.M,W0.heap.size≤j∧j<w.heap.size)∧x.c.Fit∧
 w.ownsRow W0.heap.size 77 1 x.vl x.prs.length (x.prs.map fun y=>Value.pointer (some ⟨y.a,0,none⟩))∧
 w.ownsRow W0.heap.size 9 1 x.vh x.H.length (x.H.map Value.string)∧(∀t∈x.H,t.size≤1099511627776)∧
 w.ownsRow W0.heap.size 40 1 x.vls x.lss.length (x.lss.map fun l=>sl l.g1 l.T.length l.T.length)∧w.ownsRow W0.heap.size 40 1 x.vlw x.lss.length (x.lss.map fun l=>sl l.g2 l.T.length l.T.length)∧
 (x.prs.length≤s∧x.H.length≤s∧x.lss.length≤s)∧(∀l∈x.lss,l.At W0.heap.size w)∧∀y∈x.prs,y.At W0.heap.size x.M w∧y.g≤s∧y.pp.length=y.ps.length
theorem Ao.later {W0:Aw} {s:Nat} {x:WG} {w w':World} (h:Ao W0 s x w) (b:Aa w w'):Ao W0 s x w':=by
 obtain ⟨h1,h2,h3,h4,h5,h6,h7,h8,h9,h10,h11,h12,h13,h14⟩:=h
 exact ⟨h1.later b, h2.trans b, h3, h4, fun j hj => ⟨(h5 j hj).1, jN (h5 j hj).2 b.size⟩, h6, BG h7 b, BG h8 b, h9, BG h10 b, BG h11 b, h12, fun l hl => ⟨BG (h13 l hl).1 b, BG (h13 l hl).2.1 b, (h13 l hl).2.2⟩,
   fun y hy => ⟨(h14 y hy).1.but (N := []) (Ab.of_bel b) (by simp) (by simp), (h14 y hy).2⟩⟩
theorem Ao.up {W0:Aw} {s t:Nat} {x:WG} {w:World} (h:Ao W0 s x w) (ht:s≤t):Ao W0 t x w:=by
 obtain ⟨h1,h2,h3,h4,h5,h6,h7,h8,h9,h10,h11,⟨a,b,c⟩,h13,h14⟩:=h;exact ⟨h1,h2,h3,h4,h5,h6,h7,h8,h9,h10,h11,⟨by omega,by omega,by omega⟩,h13,fun y hy=>⟨(h14 y hy).1,by have:=(h14 y hy).2.1;omega,(h14 y hy).2.2⟩⟩
theorem Lv {j:Nat} {M:List Nat} {w:World} (h:j∈M∨w.heap.size≤j):Ay (j::M) w=Ay M w:=by
 unfold Ay;congr 1;apply Array.ext
 ·simp
 ·intro i h1 h2;have hi:i<w.heap.size:=by simpa using h1
  simp only [Array.getElem_mapIdx,ja];by_cases hm:i∈M
  ·simp [hm]
  ·by_cases hij:i=j
   ·subst hij;rcases h with h|h
    ·exact absurd h hm
    ·omega
   ·simp [hm,hij]
theorem Au.At.cons {M:List Nat} {x:Au} {w:World} (h:x.At M w) {j:Nat} (hj:j∈M∨w.heap.size≤j):x.At (j::M) w:=by
 unfold Au.At at *;rw [Lv hj];exact h
theorem Ah.At.cons {base:Nat} {M:List Nat} {x:Ah} {w:World} (h:x.At base M w) {j:Nat} (hj:j∈M∨w.heap.size≤j):x.At base (j::M) w:=by
 obtain ⟨h1,h2,h3,h4,h5,h6,h7,h8,h9,h10⟩:=h;refine ⟨h1,h2.wide (fun _ h=>jW _ h) (fun k hk=>by rcases ja.1 hk with e|e;rw [e];exact hj;exact Or.inl e),?_,h4,h5,h6,?_,h8,h9,fun y hy=>(h10 y hy).cons hj⟩
 ·rw [Lv hj];exact h3
 ·rw [Lv hj];exact h7
theorem QR {p:Nat} {A O C:List Nat} {g:Nat} (h:(p::(A++(O++C))).Nodup) (hg:O=[g]∨(g≠p∧g∉A∧g∉C)):(p::(A++([g]++C))).Nodup∧(∀j∈A,j∉p::O)∧∀j∈C,j∉p::O:=by
 rw [List.nodup_cons,List.nodup_append,List.nodup_append] at h;obtain ⟨hp,hA,⟨hO,hC,hOC⟩,hAOC⟩:=h;have hpA:p∉A:=fun e=>hp (jg _ e)
 have hpO:p∉O:=fun e=>hp (jU _ (jg _ e))
 have hpC:p∉C:=fun e=>hp (jU _ (jU _ e))
 refine ⟨?_,fun j hj=>?_,fun j hj=>?_⟩
 ·rcases hg with rfl|⟨g1,g2,g3⟩
  ·rw [List.nodup_cons,List.nodup_append,List.nodup_append];exact ⟨hp,hA,⟨hO,hC,hOC⟩,hAOC⟩
  ·rw [List.nodup_cons,List.nodup_append,List.nodup_append];refine ⟨?_,hA,⟨by simp,hC,fun a ha b hb=>?_⟩,fun a ha b hb=>?_⟩
   ·simp only [jT,jP];rintro (h|h|h)
    ·exact hpA h
    ·exact g1 h.symm
    ·exact hpC h
   ·rw [jP.1 ha];exact fun e=>g3 (e ▸ hb)
   ·rcases jT.1 hb with h|h
    ·rw [jP.1 h];exact fun e=>g2 (e ▸ ha)
    ·exact hAOC a ha b (jU _ h)
 ·rw [ja];rintro (rfl|h)
  ·exact hpA hj
  ·exact hAOC j hj j (jg _ h) rfl
 ·rw [ja];rintro (rfl|h)
  ·exact hpC hj
  ·exact hOC j h j hj rfl
theorem Ao.put {W0:Aw} {s:Nat} {x:WG} {w w1:World} {g cap:Nat} {S:ByteArray} (h:Ao W0 s x w) (hb:Ab x.vh.ownBlock.toList w w1) (hrow:w1.ownsRow W0.heap.size 9 1 (sl g (x.H.length+1) cap) (x.H.length+1) (x.H.map Value.string++[.string S]))
  (hg:x.vh.ownBlock=some g∨w.heap.size≤g) (hS:S.size≤1099511627776):Ao W0 (s+1) {x with vh:=sl g (x.H.length+1) cap,H:=x.H++[S],M:=g::x.M} (w1.setCell ⟨x.p,7,none⟩ (sl g (x.H.length+1) cap)):=by
 obtain ⟨h1,h2,h3,h4,h5,h6,h7,h8,h9,h10,h11,⟨s1,s2,s3⟩,h13,h14⟩:=h;have hO:∀j∈x.vh.ownBlock.toList,j∈x.blocks:=fun j hj=>by simp only [WG.blocks,ja,jT];simp [hj]
 have hpb:x.p∈x.blocks:=by simp [WG.blocks]
 have hg1:g∈x.M∨w.heap.size≤g:=hg.imp (fun e=>h4 g (hO g (by simp [e]))) id
 have hgb:W0.heap.size≤g:=by
  rcases hg with e|e
  ·exact (h5 g (h4 g (hO g (by simp [e])))).1
  ·have:=h2.size;omega
 have bw:Ab (x.p::x.vh.ownBlock.toList) w (w1.setCell ⟨x.p,7,none⟩ (sl g (x.H.length+1) cap)):=(hb.mono (fun k hk=>Or.inl (jW _ hk))).put (Or.inl (by simp)) _;have hN:∀j∈x.p::x.vh.ownBlock.toList,j∈g::x.M∨w.heap.size≤j:=fun j hj=>Or.inl (jW _ (h4 j (by rcases ja.1 hj with rfl|e;exact hpb;exact hO j e)))
 have hbl:x.blocks=x.p::(x.vl.ownBlock.toList++(x.vh.ownBlock.toList++(x.vls.ownBlock.toList++x.vlw.ownBlock.toList++x.lss.flatMap (fun l=>[l.g1,l.g2])++x.prs.flatMap Ah.blocks))):=by simp [WG.blocks]
 have hfree:x.vh.ownBlock.toList=[g]∨(g≠x.p∧g∉x.vl.ownBlock.toList∧g∉(x.vls.ownBlock.toList++x.vlw.ownBlock.toList++x.lss.flatMap (fun l=>[l.g1,l.g2])++x.prs.flatMap Ah.blocks)):=by
  rcases hg with e|e
  ·exact Or.inl (by simp [e])
  ·have hout:g∉x.blocks:=fun hm=>by have:=(h5 g (h4 g hm)).2;omega
   rw [hbl] at hout;refine Or.inr ⟨fun e2=>hout (by simp [e2]),fun e2=>hout ?_,fun e2=>hout ?_⟩
   ·exact jW _ (jg _ e2)
   ·exact jW _ (jU _ (jU _ e2))
 obtain ⟨nd,dA,dC⟩:=QR (hbl ▸ h3) hfree
 have hpg:x.p≠g:=by
  have:=(List.nodup_cons.1 nd).1;exact fun e=>this (by simp [e])
 have dls:∀j∈x.vls.ownBlock.toList,j∉x.p::x.vh.ownBlock.toList:=fun j hj=>dC j (by simp only [jT];exact Or.inl (Or.inl (Or.inl hj)))
 have dlw:∀j∈x.vlw.ownBlock.toList,j∉x.p::x.vh.ownBlock.toList:=fun j hj=>dC j (by simp only [jT];exact Or.inl (Or.inl (Or.inr hj)))
 have dll:∀l∈x.lss,∀j∈[l.g1,l.g2],j∉x.p::x.vh.ownBlock.toList:=fun l hl j hj=>dC j (by simp only [jT];exact Or.inl (Or.inr (jd.2 ⟨l,hl,hj⟩)))
 have dpr:∀y∈x.prs,∀j∈y.blocks,j∉x.p::x.vh.ownBlock.toList:=fun y hy j hj=>dC j (by simp only [jT];exact Or.inr (jd.2 ⟨y,hy,hj⟩))
 have hB:F8 W0 (g::x.M) (w1.setCell ⟨x.p,7,none⟩ (sl g (x.H.length+1) cap)):=Ab.belX h2 bw (fun j hj=>(h5 j (h4 j (by rcases ja.1 hj with rfl|e;exact hpb;exact hO j e))).1) (fun j hj=>h4 j (by rcases ja.1 hj with rfl|e;exact hpb;exact hO j e)) (fun j hj=>by rcases ja.1 hj with rfl|e;exact hg1;exact Or.inl e);have hsz:=bw.size
 have hgl:g<(w1.setCell ⟨x.p,7,none⟩ (sl g (x.H.length+1) cap)).heap.size:=by
  have:=(World.ownsRow.lt hrow g rfl).2;simpa [World.setCell] using this
 refine ⟨?_,hB,?_,?_,?_,h6,AY h7 bw (fun k hk=>dA k (by simp [hk])),?_,?_,AY h10 bw (fun k hk=>dls k (by simp [hk])),AY h11 bw (fun k hk=>dlw k (by simp [hk])),⟨by show x.prs.length≤_;omega,by simp;omega,by show x.lss.length≤_;omega⟩,fun l hl=>?_,fun y hy=>⟨((h14 y hy).1.cons hg1).but bw hN (dpr y hy),by have:=(h14 y hy).2.1;omega,(h14 y hy).2.2⟩⟩
 ·have hW := (h1.but hb (fun e => by
    have := (List.nodup_cons.1 (hbl ▸ h3)).1
    exact this (jU _ (jg _ e)))).set 7 (sl g (x.H.length + 1) cap)
  exact hW
 ·show (WG.blocks _).Nodup;have:(x.p::(x.vl.ownBlock.toList++([g]++(x.vls.ownBlock.toList++x.vlw.ownBlock.toList++x.lss.flatMap (fun l=>[l.g1,l.g2])++x.prs.flatMap Ah.blocks)))).Nodup:=nd;simpa [WG.blocks,sl,Value.ownBlock] using this
 ·intro j hj
  have hj2:j=g∨j∈x.blocks:=by
   simp only [WG.blocks,sl,Value.ownBlock,ja,jT,Option.toList_some,List.not_mem_nil,or_false] at hj ⊢;rcases hj with h|((((h|h)|h)|h)|h)|h
   ·exact Or.inr (Or.inl h)
   ·exact Or.inr (Or.inr (Or.inl (Or.inl (Or.inl (Or.inl (Or.inl h))))))
   ·exact Or.inl h
   ·exact Or.inr (Or.inr (Or.inl (Or.inl (Or.inl (Or.inr h)))))
   ·exact Or.inr (Or.inr (Or.inl (Or.inl (Or.inr h))))
   ·exact Or.inr (Or.inr (Or.inl (Or.inr h)))
   ·exact Or.inr (Or.inr (Or.inr h))
  rcases hj2 with rfl|hj2
  ·exact List.mem_cons_self
  ·exact jW _ (h4 j hj2)
 ·intro j hj;rcases ja.1 hj with rfl|hj
  ·exact ⟨hgb,hgl⟩
  ·exact ⟨(h5 j hj).1,jN (h5 j hj).2 hsz⟩
 ·have := AY hrow ((Ab.refl [x.p] w1).set (p := ⟨x.p, 7, none⟩) (by simp) (sl g (x.H.length + 1) cap)) (fun k hk hm => by
    simp [sl, Value.ownBlock] at hk hm
    exact hpg (by omega))
  simpa using this
 ·intro t ht;rcases jT.1 ht with h|h
  ·exact h9 t h
  ·rw [jP.1 h];exact hS
 ·obtain ⟨l1,l2,l3⟩:=h13 l hl;exact ⟨AY l1 bw (fun k hk=>dll l hl k (by simp [sl,Value.ownBlock] at hk;simp [hk])),AY l2 bw (fun k hk=>dll l hl k (by simp [sl,Value.ownBlock] at hk;simp [hk])),l3⟩
def Ot (W0:Aw) (p s:Nat) (e:Ending) (w':World):Prop:=e= .returned (.tuple #[])∧∃x,Ao W0 s x w'∧x.p=p
theorem J2 (W0:Aw) (s:Nat) (x:WG) (S:ByteArray) (w:World) (h:Ao W0 s x w) (hs:s≤150000) (hS:S.size≤1099511627776):
  Calls Tryz.prog 53 #[.pointer (some ⟨x.p,0,none⟩),.string S] w (Ot W0 x.p (s+1)):=by
 have hvp:x.vh.ownBlock≠some x.p:=fun e=>by
  have h3:=h.2.2.1;have hbl:x.blocks=x.p::(x.vl.ownBlock.toList++(x.vh.ownBlock.toList++(x.vls.ownBlock.toList++x.vlw.ownBlock.toList++x.lss.flatMap (fun l=>[l.g1,l.g2])++x.prs.flatMap Ah.blocks))):=by simp [WG.blocks]
  have:=(List.nodup_cons.1 (hbl ▸ h3)).1;exact this (jU _ (jg _ (by simp [e])))
 refine (Lq W0.heap.size x.p x.H.length x.vh (x.H.map Value.string) S w (h.1.1 7 _ rfl) (h.1.2 7 (by simp [WG.cells])) h.2.2.2.2.2.2.2.1 (by have:=h.2.2.2.2.2.2.2.2.2.2.2.1.2.1;omega) h.2.1.size hvp).mono ?_;rintro e w' ⟨rfl,g,cap,w1,hb,rfl,hrow,hg⟩;exact ⟨rfl,_,h.put hb hrow hg hS,rfl⟩
theorem FI (W0:Aw) (s:Nat) (x:WG) (a:Int) (w:World) (h:Ao W0 s x w) (hs:s≤150000) (ha:Aj a):
  Calls Tryz.prog 52 #[.pointer (some ⟨x.p,0,none⟩),.int .i64 a] w fun e w'=>∃t:ByteArray,e= .returned (.string t)∧Aa w w'∧t.size≤1099511627776:=by
 refine (QI W0.heap.size x.p x.H.length x.vh x.H a w (h.1.1 7 _ rfl) h.2.2.2.2.2.2.2.1 (by have:=h.2.2.2.2.2.2.2.2.2.2.2.1.2.1;omega) ha).mono ?_;rintro e w' ⟨t,rfl,hb,ht⟩;refine ⟨t,rfl,hb,?_⟩;rcases ht with rfl|ht
 ·decide
 ·exact h.2.2.2.2.2.2.2.2.1 t ht
theorem Ao.cfg {W0:Aw} {s:Nat} {x:WG} {w:World} (h:Ao W0 s x w) (o:Nat) (u:Value) (c':Ac) (hcell:x.cells.set o u=WG.cells {x with c:=c'}) (hf:c'.Fit):Ao W0 s {x with c:=c'} (w.setCell ⟨x.p,o,none⟩ u):=by
 obtain ⟨h1,h2,h3,h4,h5,h6,h7,h8,h9,h10,h11,h12,h13,h14⟩:=h
 have hp:∀j∈x.blocks,j=x.p∨j∉[x.p]:=fun j _=>by
  by_cases e:j=x.p
  ·exact Or.inl e
  ·exact Or.inr (by simpa using e)
 have hn:=(List.nodup_cons.1 h3).1;have hpM:x.p∈x.M:=h4 x.p (by simp [WG.blocks]);have bw:Ab [x.p] w (w.setCell ⟨x.p,o,none⟩ u):=(Ab.refl _ w).set (by simp) u;have hno:∀j,j∈(x.vl.ownBlock.toList++x.vh.ownBlock.toList++x.vls.ownBlock.toList++x.vlw.ownBlock.toList++x.lss.flatMap (fun l=>[l.g1,l.g2])++x.prs.flatMap Ah.blocks)→j∉[x.p]:=fun j hj e=>hn (by rw [←jP.1 e];exact hj)
 simp only [jT] at hno
 refine ⟨hcell ▸ h1.set o u, Ab.belX h2 bw (by intro j hj; rw [jP.1 hj]; exact (h5 _ hpM).1) (by intro j hj; rw [jP.1 hj]; exact hpM) (fun j hj => Or.inl hj), h3, h4, fun j hj => ⟨(h5 j hj).1, by simpa [World.setCell] using (h5 j hj).2⟩, hf, AY h7 bw (fun k hk => hno k (Or.inl (Or.inl (Or.inl (Or.inl (Or.inl (by simp [hk]))))))), AY h8 bw (fun k hk => hno k (Or.inl (Or.inl (Or.inl (Or.inl (Or.inr (by simp [hk]))))))), h9,
   AY h10 bw (fun k hk => hno k (Or.inl (Or.inl (Or.inl (Or.inr (by simp [hk])))))), AY h11 bw (fun k hk => hno k (Or.inl (Or.inl (Or.inr (by simp [hk]))))), h12, fun l hl => ?_, fun y hy => ⟨(h14 y hy).1.but bw (by intro j hj; rw [jP.1 hj]; exact Or.inl hpM) (fun j hj => hno j (Or.inr (jd.2 ⟨y, hy, hj⟩))), (h14 y hy).2⟩⟩
 obtain ⟨l1,l2,l3⟩:=h13 l hl;exact ⟨AY l1 bw (fun k hk=>hno k (Or.inl (Or.inr (jd.2 ⟨l,hl,by simp [sl,Value.ownBlock] at hk;simp [hk]⟩)))),AY l2 bw (fun k hk=>hno k (Or.inl (Or.inr (jd.2 ⟨l,hl,by simp [sl,Value.ownBlock] at hk;simp [hk]⟩)))),l3⟩
theorem Ub (W0:Aw) (s:Nat) (x:WG) (k v:Int) (w:World) (h:Ao W0 s x w) (hk0:0≤k) (hk4:k<5) (hv:Aj v):
  Calls Tryz.prog 85 #[.pointer (some ⟨x.p,0,none⟩),.int .i64 k,.int .i64 v] w (Ot W0 x.p s):=by
 refine (Rz x.p x.cells k v w h.1 (by simp [WG.cells]) hk0 hk4).mono ?_;rintro e w' ⟨rfl,o,ho,rfl⟩;have hf:=h.2.2.2.2.2.1;obtain ⟨f1,f2,f3,f4,f5,f6⟩:=hf;rcases ho with rfl|rfl|rfl|rfl|rfl
 ·exact ⟨rfl,_,h.cfg 0 _ {x.c with alg:=v} rfl ⟨hv,f2,f3,f4,f5,f6⟩,rfl⟩
 ·exact ⟨rfl,_,h.cfg 1 _ {x.c with slots:=v} rfl ⟨f1,hv,f3,f4,f5,f6⟩,rfl⟩
 ·exact ⟨rfl,_,h.cfg 2 _ {x.c with points:=v} rfl ⟨f1,f2,hv,f4,f5,f6⟩,rfl⟩
 ·exact ⟨rfl,_,h.cfg 3 _ {x.c with probes:=v} rfl ⟨f1,f2,f3,hv,f5,f6⟩,rfl⟩
 ·exact ⟨rfl,_,h.cfg 5 _ {x.c with formats:=v} rfl ⟨f1,f2,f3,f4,hv,f6⟩,rfl⟩
end Go.Proofs.YtpapdkhjdelfcabGreat
