import Derived.Test.YtpapdkhjdelfcabGreatLBY
import Derived.Test.YtpapdkhjdelfcabGreatRows
import Derived.WalkKit
import Derived.ProofKit
import Derived.OpenShut
import Derived.ChangeOld
import Derived.Below
import Derived.Deep.Slices
import Derived.SizedLaws
namespace Go.Proofs.YtpapdkhjdelfcabGreat
open Go.ChangeShapes Go.WideShapes Go.ChangeAt Go.RowKit Go.Deep
open Go.RowKit
set_option maxRecDepth 100000
set_option maxHeartbeats 4000000
def TA (w:World) (a:Option Addr) (i:Nat) (kd x y z:Int) (S:ByteArray):Prop:=
 (∃b o,a=some ⟨b,o,none⟩∧w.cell? ⟨b,o+i * 5,none⟩=some (.int .i64 kd)∧w.cell? ⟨b,o+i * 5+1,none⟩=some (.int .i64 x)∧w.cell? ⟨b,o+i * 5+2,none⟩=some (.int .i64 y)∧w.cell? ⟨b,o+i * 5+3,none⟩=some (.int .i64 z)∧w.cell? ⟨b,o+i * 5+4,none⟩=some (.string S))∧
 Aj kd∧Aj x∧Aj y∧Aj z∧S.size≤140737488355328
def IC (w:World) (a:Option Addr) (len:Nat):Prop:=len≤maxLen∧∀i,i<len→∃kd x y z S,TA w a i kd x y z S
theorem Ku {n:Int} (h:(Lit.int .i64 n).wf=true):Aj n:=by
 simp only [Lit.wf,Bool.and_eq_true,decide_eq_true_eq] at h;have h1:IntKind.i64.min= -9223372036854775808:=by decide
 have h2:IntKind.i64.max=9223372036854775807:=by decide
 unfold Aj;omega
theorem Ow {H:Type} {P:Program} {e:TypeId}:∀{l:List (DataW H)} {d:DataW H},d∈l→∀n∈d.weights P e,n∈DataW.weightsAll P e l
 |[],d,h,_,_=>by cases h
 |x::l,d,h,n,hn=>by
  rw [DataW.weightsAll,jT];rcases ja.1 h with rfl|h
  ·exact Or.inl hn
  ·exact Or.inr (Ow h n hn)
theorem UB {H:Type} {enc:TypeId×Value→H} {W:World} {spare:Nat→Bool} {held:Bool} {fuel:Nat} {cs:List Value} {x:DataW H×List MemPlace} (h:DataW.trod enc Tryz.prog W 0 spare held fuel 22 cs=some x)
  (hsz:∀n∈x.1.weights Tryz.prog 22,n≤reachBytes):∃a len cap,cs=[.slice a len cap]∧IC W a len:=by
 rcases open_slice Tryz.underlying22 h with ⟨rfl,_⟩|⟨a,len,cap,m,n,D,Pl,rfl,_,hl,hm,hmm,hxe,hall⟩
 ·exact ⟨none,0,0,rfl,Nat.zero_le _,fun i hi=>by omega⟩
 ·refine ⟨some a,len,cap,rfl,jX hl hm,fun i hi=>?_⟩;obtain ⟨cs',hc,hd⟩:=hall i (by subst hmm;split <;>omega);obtain ⟨xs,k,_,hx,hlen,hxl,hf⟩:=DataW.trod_struct Tryz.underlying32 hd;have h5:Tryz.prog.cellsOf 32=5:=by kernel_rfl
  have hi1:Tryz.prog.cellsOf 3=1:=by kernel_rfl
  have hs1:Tryz.prog.cellsOf 9=1:=by kernel_rfl
  rw [h5] at hc hlen;obtain ⟨_,_,hcell⟩:=World.cells?_some hc
  match cs',hlen,xs,hxl with
  |[c0,c1,c2,c3,c4],_,[y0,y1,y2,y3,y4],_=>
   have g0:DataW.trod enc Tryz.prog W 0 spare held k 3 (([c0,c1,c2,c3,c4].drop 0).take (Tryz.prog.cellsOf 3))=some y0:=hf 0 _ rfl;rw [hi1] at g0;have g1:DataW.trod enc Tryz.prog W 0 spare held k 3 (([c0,c1,c2,c3,c4].drop 1).take (Tryz.prog.cellsOf 3))=some y1:=hf 1 _ rfl;rw [hi1] at g1;have g2:DataW.trod enc Tryz.prog W 0 spare held k 3 (([c0,c1,c2,c3,c4].drop 2).take (Tryz.prog.cellsOf 3))=some y2:=hf 2 _ rfl;rw [hi1] at g2;have g3:DataW.trod enc Tryz.prog W 0 spare held k 3 (([c0,c1,c2,c3,c4].drop 3).take (Tryz.prog.cellsOf 3))=some y3:=hf 3 _ rfl;rw [hi1] at g3;have g4:DataW.trod enc Tryz.prog W 0 spare held k 9 (([c0,c1,c2,c3,c4].drop 4).take (Tryz.prog.cellsOf 9))=some y4:=hf 4 _ rfl;rw [hs1] at g4;obtain ⟨n0,e0,_,w0⟩:=DataW.trod_int Tryz.underlying3 g0;obtain ⟨n1,e1,_,w1⟩:=DataW.trod_int Tryz.underlying3 g1;obtain ⟨n2,e2,_,w2⟩:=DataW.trod_int Tryz.underlying3 g2;obtain ⟨n3,e3,_,w3⟩:=DataW.trod_int Tryz.underlying3 g3;obtain ⟨n4,e4,e5,w4⟩:=DataW.trod_string Tryz.underlying9 g4;simp only [List.drop_zero,List.drop_succ_cons,List.take_succ_cons,List.take_zero,List.cons.injEq,and_true] at e0 e1 e2 e3 e4;subst e0 e1 e2 e3 e4 e5
   have hwt:n4.data.toList.length≤reachBytes:=by
    refine hsz _ ?_;rw [hxe];simp only [DataW.weights,Tryz.underlying22,ja,jT];refine Or.inr (Or.inl (Ow (d:=D i) (List.mem_map.2 ⟨i,List.mem_range.2 hi,rfl⟩) _ ?_));have hD:D i=_:=(congrArg Prod.fst hx:_);rw [hD];simp [DataW.weights,DataW.weightsEach,Tryz.underlying32]
   have hwt2:n4.size≤140737488355328:=by
    have h1:n4.size=n4.data.toList.length:=rfl;have h2:reachBytes<2 ^ 47:=reachBytes_lt;omega
   obtain ⟨b,o,spot⟩:=a;have q0:=hcell 0 (by omega)
   have hspot:spot=none:=by
    obtain ⟨cs0,hc0,_⟩:=hall 0 (by subst hmm;split <;>omega);rw [h5] at hc0;obtain ⟨_,hl0,hcell0⟩:=World.cells?_some hc0;have r0:=hcell0 0 (by omega);rw [jG (by omega)] at r0;simpa [Addr.add] using World.cell?_spot r0
   subst hspot;have q1:=hcell 1 (by omega);have q2:=hcell 2 (by omega);have q3:=hcell 3 (by omega);have q4:=hcell 4 (by omega);have hadd:∀j k,((⟨b,o,none⟩:Addr).add j).add k=⟨b,o+j+k,none⟩:=fun j k=>by unfold Addr.add;split <;>split <;>simp_all
   rw [hadd] at q0 q1 q2 q3 q4;exact ⟨n0,n1,n2,n3,n4,⟨b,o,rfl,q0,q1,q2,q3,q4⟩,Ku w0,Ku w1,Ku w2,Ku w3,hwt2⟩
def JC (w:World) (a:Option Addr) (k:Nat):Prop:=∀i,i<k→∀b o S,a=some ⟨b,o,none⟩→w.cell? ⟨b,o+i * 5+4,none⟩=some (.string S)→S.size≤65536
def Vd (a:Option Addr) (len:Nat) (w:World) (e:Ending) (w':World):Prop:=∃x,e= .returned (.bool x)∧w=w'∧(x=true→len≤65536∧JC w a len)
theorem Wk (a:Option Addr) (len cap:Nat) (w:World) (h:IC w a len):Calls Tryz.prog 16 #[.slice a len cap] w (Vd a len w):=by
 by_cases hl:65536<len
 ·have hd:decide ((len:Int)>65536)=true:=jL (by omega);go_enter Tryz.func16,Tryz.ntmps16;go_wp2;go_ret;exact ⟨false,rfl,rfl,by simp⟩
 ·have hd:decide ((len:Int)>65536)=false:=jK (by omega);have HI:=jp h;have hl2:len≤65536:=by omega
  clear h hl;go_enter Tryz.func16,Tryz.ntmps16;go_wp2;go_loopg [3,4] len (fun r nn ni wr=>∃k s:Nat,nn= .int .i64 (s:Int)∧ni= .int .i64 (k:Int)∧k≤len∧s≤65536∧r=len - k∧wr=w∧JC w a k)
  case atStart=>exact ⟨0,len,rfl,rfl,by omega,by omega,by omega,rfl,fun i hi=>by omega⟩
  case round=>
   obtain ⟨k,s,rfl,rfl,hk,hs,hr,rfl,hsm⟩:=hrel;have HSM:=jp hsm;clear hsm;by_cases hkl:k<len
   ·obtain ⟨kd,x,y,z,S,⟨b,o,rfl, -, -, -, -,c4⟩, -, -, -, -,hS⟩:=HI.out.2 k hkl;have hk1:decide ((k:Int)<(len:Int))=true:=jL (by omega);have hwr:wrap64 ((s:Int)+(S.size:Int))=((s+S.size:Nat):Int):=by unfold wrap64;omega
    have hwr2:IntKind.i64.wrap ((s:Int)+(S.size:Int))=((s+S.size:Nat):Int):=by rw [IntKind.wrap_i64];omega
    by_cases hgt:65536<s+S.size
    ·have hg1:decide (((s+S.size:Nat):Int)>65536)=true:=jL (by omega);go_wp2;go_ret;exact ⟨false,rfl,rfl,by simp⟩
    ·have hg1:decide (((s+S.size:Nat):Int)>65536)=false:=jK (by omega)
     have HS2:Hid (JC wr (some ⟨b,o,none⟩) (k+1)):=fun i hi b' o' S' he hc=>by
      simp only [Option.some.injEq,Addr.mk.injEq,and_true] at he;obtain ⟨rfl,rfl⟩:=he;by_cases hik:i=k
      ·subst hik;rw [c4] at hc;cases hc;omega
      ·exact HSM.out i (by omega) b o S' rfl hc
     go_wp2;go_roundg (len - (k+1))
     case measure=>omega
     case rel=>exact ⟨k+1,s+S.size,by go_num,by go_num,by omega,by omega,rfl,rfl,HS2.out⟩
   ·have hk1:decide ((k:Int)<(len:Int))=false:=jK (by omega);obtain rfl:k=len:=by omega
    go_wp2;go_ret;exact ⟨true,rfl,rfl,fun _=>⟨hl2,HSM.out⟩⟩
theorem Xq (W0:Aw) (s:Nat) (x:WG) (k A B C:Int) (S:ByteArray) (w:World) (h:Ao W0 s x w) (hs:s≤69999) (hA:Aj A) (hB:Aj B) (hC:Aj C) (hS:S.size≤65536):
  Calls Tryz.prog 26 #[.pointer (some ⟨x.p,0,none⟩),AB k A B C S] w (BL W0 x.p (s+1) k):=by
 by_cases h1:k=1∨k=2∨k=18∨k=19∨k=20∨k=21∨k=25
 ·exact Rt W0 s x k A B C S w h hs hA hB hC hS h1
 by_cases h3:k=3
 ·subst h3;exact step_new W0 s x A B C S w h hs hA hB hC hS
 by_cases h4:k=4
 ·subst h4;exact Fc W0 s x 4 A B C S w h hs hA hB hC hS (by omega)
 by_cases h5:k=5
 ·subst h5;exact Fc W0 s x 5 A B C S w h hs hA hB hC hS (by omega)
 by_cases h6:k=6
 ·subst h6;exact Fc W0 s x 6 A B C S w h hs hA hB hC hS (by omega)
 by_cases h7:k=7
 ·subst h7;exact VU W0 s x A B C S w h hs hA hB hC hS
 by_cases h8:k=8
 ·subst h8;exact Fc W0 s x 8 A B C S w h hs hA hB hC hS (by omega)
 by_cases h9:k=9
 ·subst h9;exact Fc W0 s x 9 A B C S w h hs hA hB hC hS (by omega)
 by_cases h10:k=10
 ·subst h10;exact Fc W0 s x 10 A B C S w h hs hA hB hC hS (by omega)
 by_cases h11:k=11
 ·subst h11;exact Fc W0 s x 11 A B C S w h hs hA hB hC hS (by omega)
 by_cases h12:k=12
 ·subst h12;exact Fc W0 s x 12 A B C S w h hs hA hB hC hS (by omega)
 by_cases h13:k=13
 ·subst h13;exact WN W0 s x A B C S w h hs hA hB hC hS
 by_cases h14:k=14
 ·subst h14;exact Fc W0 s x 14 A B C S w h hs hA hB hC hS (by omega)
 by_cases h15:k=15
 ·subst h15;exact Fc W0 s x 15 A B C S w h hs hA hB hC hS (by omega)
 by_cases h16:k=16
 ·subst h16;exact Fc W0 s x 16 A B C S w h hs hA hB hC hS (by omega)
 by_cases h17:k=17
 ·subst h17;exact Fc W0 s x 17 A B C S w h hs hA hB hC hS (by omega)
 by_cases h22:k=22
 ·subst h22;exact Rn W0 s x A B C S w h hs hA hB hC hS
 by_cases h23:k=23
 ·subst h23;exact TR W0 s x A B C S w h hs hA hB hC hS
 by_cases h24:k=24
 ·subst h24;exact Us W0 s x A B C S w h hs hA hB hC hS
 exact UU W0 s x k A B C S w h hs hA hB hC hS ⟨by omega,by omega,by omega,by omega,by omega,by omega,by omega,by omega,by omega,by omega,by omega,by omega,by omega,by omega,by omega,by omega,by omega,by omega,by omega,by omega,by omega,by omega,by omega,by omega,by omega⟩
def KF (held:Int):Prop:=held=1∨held=8∨held=112∨held=512∨held=1024∨held=2048
theorem Q1 {held k:Int} (hh:KF held) (h0:0<k) (h1:k<26) (hk:¬CZ k):(held / 2 ^ k.toNat % 2==1)=false:=by
 unfold CZ at hk;obtain ⟨n,rfl⟩:=jM (show 0≤k by omega);simp only [Int.toNat_natCast];have hn:n=1∨n=2∨n=7∨n=8∨n=12∨n=13∨n=14∨n=15∨n=16∨n=17∨n=18∨n=19∨n=20∨n=21∨n=22∨n=23∨n=24∨n=25:=by omega
 clear hk h0 h1;rcases hh with rfl|rfl|rfl|rfl|rfl|rfl <;>rcases hn with rfl|rfl|rfl|rfl|rfl|rfl|rfl|rfl|rfl|rfl|rfl|rfl|rfl|rfl|rfl|rfl|rfl|rfl <;>decide
theorem Ao.rebase {W:World} {ex ex':List (Nat×Int)} {s:Nat} {x:WG} {w:World} (h:Ao ⟨W,ex⟩ s x w) (he:∀e∈ex',e.1∉x.M∧e.1<w.heap.size∧w.cell? ⟨e.1,0,none⟩=some (.int .i64 e.2)):Ao ⟨W,ex'⟩ s x w:=by
 obtain ⟨h1,h2,r⟩:=h;exact ⟨h1,⟨h2.1,he⟩,r⟩
def Ke (p:Nat):WG:=⟨p,[p],⟨0,0,0,0,ByteArray.empty,0⟩,.slice none 0 0,.slice none 0 0,.slice none 0 0,.slice none 0 0,[],[],[]⟩
theorem Ao.start (w:World) (t:TypeId):Ao ⟨w,[]⟩ 0 (Ke w.heap.size) (w.alloc (.cells #[.int .i64 0,.int .i64 0,.int .i64 0,.int .i64 0,.string ByteArray.empty,.int .i64 0,.slice none 0 0,.slice none 0 0,.slice none 0 0,.slice none 0 0] t)):=by
 refine ⟨?_,?_,?_,?_,?_,?_,?_,?_,?_,?_,?_,?_,?_,?_⟩
 ·exact Cz.new w #[.int .i64 0,.int .i64 0,.int .i64 0,.int .i64 0,.string ByteArray.empty,.int .i64 0,.slice none 0 0,.slice none 0 0,.slice none 0 0,.slice none 0 0] t (by simp)
 ·exact ⟨Aa.step_alloc (jD w) _,fun e he=>by cases he⟩
 ·simp [WG.blocks,Ke,Value.ownBlock]
 ·intro j hj;simpa [WG.blocks,Ke,Value.ownBlock] using hj
 ·intro j hj;have:j=w.heap.size:=by simpa [Ke] using hj
  subst this;exact ⟨jH _,by simp⟩
 ·have h0:Aj 0:=⟨by decide,by decide⟩;exact ⟨h0,h0,h0,h0,h0,by show (0:Nat)≤maxLen;unfold maxLen;omega⟩
 ·exact World.ownsRow_nil _ _ _ _
 ·exact World.ownsRow_nil _ _ _ _
 ·intro t ht;cases ht
 ·exact World.ownsRow_nil _ _ _ _
 ·exact World.ownsRow_nil _ _ _ _
 ·exact ⟨jH _,jH _,jH _⟩
 ·intro l hl;cases hl
 ·intro y hy;cases hy
def Yy (w:World) (e:Ending) (w':World):Prop:=e= .returned (.int .i64 (-1))∧Aa w w'
theorem UZ (a:Option Addr) (len cap:Nat) (held:Int) (w:World) (h:IC w a len) (hsm:JC w a len) (hl:len≤65536) (hh:KF held):
  Calls Tryz.prog 18 #[.slice a len cap,.int .i64 held] w (Yy w):=by
 have HI:=jp h;have HSM:=jp hsm;have HHB:=jp hh;have ha1:=Li;clear h hsm hh;go_enter Tryz.func18,Tryz.ntmps18;go_wp2;have hst:=Ao.start w 46;have HST:=jp hst;clear hst;go_loopg [6] len (fun r ni wr=>∃(j:Nat) (x:WG),ni= .int .i64 (j:Int)∧j≤len∧r=len - j∧Ao ⟨w,[]⟩ j x wr∧x.p=w.heap.size)
 case atStart=>exact ⟨0,_,rfl,by omega,by omega,HST.out,rfl⟩
 case round=>
  obtain ⟨j,x,rfl,hj,rfl,hx,hxp⟩:=hrel;clear HST;by_cases hjl:j<len
  ·obtain ⟨kd,xa,xb,xc,S,⟨ab,ao,rfl,q0,q1,q2,q3,q4⟩,ik,ia,ib,ic, -⟩:=HI.out.2 j hjl;have hS:=HSM.out j hjl ab ao S rfl q4;have hbel:Aa w wr:=hx.2.1.1;have r0:=hbel.cell q0;have r1:=hbel.cell q1;have r2:=hbel.cell q2;have r3:=hbel.cell q3;have r4:=hbel.cell q4;have hj1:decide ((j:Int)<(len:Int))=true:=jL (by omega);have hM:∀i∈x.M,i<wr.heap.size:=fun i hi=>(hx.2.2.2.2.1 i hi).2
   have HX:=jp hx;clear q0 q1 q2 q3 q4 hx;go_wp2_with fail;obtain ⟨wo,hwo,hbo,o0,o1,o2,o3,o4⟩:=BV wr (.int .i64 kd) (.int .i64 xa) (.int .i64 xb) (.int .i64 xc) (.string S) 32;rw [hwo];clear hwo;have hpoM:wr.heap.size∉x.M:=fun e=>by have:=hM _ e;omega
   have hpol:wr.heap.size<wo.heap.size:=jF o0
   have hx1 : Ao ⟨w, [(wr.heap.size, kd)]⟩ j x wo := (HX.out.later hbo).rebase (fun e he => by
     have : e = (wr.heap.size, kd) := by simpa using he
     subst this
     exact ⟨hpoM, hpol, o0⟩)
   have hstp:=Xq ⟨w,[(wr.heap.size,kd)]⟩ j x kd xa xb xc S wo hx1 (by omega) ia ib ic hS;rw [hxp] at hstp;unfold AB at hstp;clear HX hx1 o0 o1 o2 o3 o4 hbo hpoM hM r0 r1 r2 r3 r4;generalize wr.heap.size=po at *;refine hstp.mono ?_;rintro e w3 ⟨b,rfl,hbt,x3,h3,hp3⟩;obtain ⟨-,hpl3,p0⟩:=h3.2.1.2 (po,kd) (by simp);simp only at p0 hpl3;have h3':Ao ⟨w,[]⟩ (j+1) x3 w3:=h3.rebase (fun e he=>by cases he);have hlk:=fun wx (b:Aa w3 wx)=>Zc ⟨w,[]⟩ (j+1) x3 wx (h3'.later b) (by omega)
   rw [hp3] at hlk;have H3:Hid (∀wx,Aa w3 wx→Ao ⟨w,[]⟩ (j+1) x3 wx):=fun wx b=>h3'.later b
   clear h3 h3' hstp;cases b
   ·have hnk:¬CZ kd:=fun e=>by have:=hbt e;cases this
    have hk3:(kd==3)=false:=by
     rw [jI];exact fun e=>hnk (Or.inl e)
    have hcs:decide (0<kd)=false∨(decide (0<kd)=true∧decide (kd<26)=false)∨(decide (0<kd)=true∧decide (kd<26)=true∧(held / 2 ^ kd.toNat % 2==1)=false∧0≤kd∧kd<64):=by
     by_cases h0:0<kd
     ·by_cases h1:kd<26
      ·exact Or.inr (Or.inr ⟨jL h0,jL h1,Q1 HHB.out h0 h1 hnk,by omega,by omega⟩)
      ·exact Or.inr (Or.inl ⟨jL h0,jK h1⟩)
     ·exact Or.inl (jK h0)
    clear hbt hnk;rcases hcs with hd|⟨hd,hd2⟩|⟨hd,hd2,hbit,hk0,hk64⟩
    all_goals
     go_wp2_with fail;refine (hlk _ (by solve_by_elim [jA,jB,jC,jD,jE])).mono ?_;rintro e w4 ⟨b,rfl,hb4,rfl⟩;clear hlk;go_wp2;go_roundg (len - (j+1))
     case measure=>omega
     case rel=>exact ⟨j+1,x3,by go_num,by omega,rfl,H3.out _ (by solve_by_elim [jA,jB,jC,jD,jE]),hp3⟩
   ·clear hbt;go_wp2_with fail;refine (hlk _ (by solve_by_elim [jA,jB,jC,jD,jE])).mono ?_;rintro e w4 ⟨b,rfl,hb4,rfl⟩;clear hlk;go_wp2;go_roundg (len - (j+1))
    case measure=>omega
    case rel=>exact ⟨j+1,x3,by go_num,by omega,rfl,H3.out _ (by solve_by_elim [jA,jB,jC,jD,jE]),hp3⟩
  ·have hj1:decide ((j:Int)<(len:Int))=false:=jK (by omega);have HB:Hid (Aa w wr):=hx.2.1.1;clear hx;go_wp2;go_ret;exact ⟨rfl,HB.out⟩
theorem Tt (a:Option Addr) (len cap:Nat) (held:Int) (w:World) (h:IC w a len) (hh:KF held):
  Calls Tryz.prog 14 #[.slice a len cap,.int .i64 held] w (Ew w fun x=>x=true):=by
 have hsm:=Wk a len cap w h
 have hup := fun wx (b : Aa w wx) (hl : len ≤ 65536) (hs : JC w a len) => UZ a len cap held wx ⟨h.1, fun i hi => by
   obtain ⟨kd, x, y, z, S, ⟨bb, o, e, q0, q1, q2, q3, q4⟩, r⟩ := h.2 i hi
   exact ⟨kd, x, y, z, S, ⟨bb, o, e, b.cell q0, b.cell q1, b.cell q2, b.cell q3, b.cell q4⟩, r⟩⟩ (fun i hi b' o' S' he hc => by
   obtain ⟨kd, x, y, z, S, ⟨bb, o, e, q0, q1, q2, q3, q4⟩, r⟩ := h.2 i hi
   rw [e] at he
   simp only [Option.some.injEq, Addr.mk.injEq, and_true] at he
   obtain ⟨rfl, rfl⟩ := he
   have h5 := b.cell q4
   rw [h5] at hc
   cases hc
   exact hs i hi bb o _ e q4) hl hh
 clear h hh;go_enter Tryz.func14,Tryz.ntmps14;go_wp2_with fail;refine hsm.mono ?_;rintro e w1 ⟨x,rfl,rfl,hx⟩;clear hsm;cases x
 ·clear hup;go_wp2;go_ret;exact ⟨_,rfl,jD _,rfl⟩
 ·obtain ⟨hl,hs⟩:=hx rfl;clear hx;go_wp2_with fail;refine (Ux _).mono ?_;rintro e w2 ⟨y,rfl,hb2,rfl⟩;have hup2:=hup w2 hb2 hl hs;clear hup hs;go_wp2_with fail;refine hup2.mono ?_;rintro e w3 ⟨rfl,hb3⟩;have hb:=hb2.trans hb3;clear hup2;go_wp2;go_ret;exact ⟨_,rfl,hb,rfl⟩
end Go.Proofs.YtpapdkhjdelfcabGreat
