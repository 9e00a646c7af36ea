import Derived.Test.YtpapdkhjdelfcaaGreatMBZ
import Derived.Test.YtpapdkhjdelfcaaGreatRows
import Derived.WalkKit
import Derived.ProofKit
import Derived.OpenShut
import Derived.ChangeOld
import Derived.Below
import Derived.Deep.Slices
import Derived.SizedLaws
namespace Go.Proofs.YtpapdkhjdelfcaaGreat
open Go.ChangeShapes Go.WideShapes Go.ChangeAt Go.RowKit Go.Deep
open Go.RowKit
set_option maxRecDepth 100000
set_option maxHeartbeats 4000000
def TA (w:jj) (a:Option Addr) (i:Nat) (c x y z:Int) (S:jt):Prop:=
 (∃b o,a=some ⟨b,o,none⟩/\w.cell? ⟨b,o+i * 5,none⟩=some (.int .i64 c)/\w.cell? ⟨b,o+i * 5+1,none⟩=some (.int .i64 x)/\w.cell? ⟨b,o+i * 5+2,none⟩=some (.int .i64 y)/\w.cell? ⟨b,o+i * 5+3,none⟩=some (.int .i64 z)/\w.cell? ⟨b,o+i * 5+4,none⟩=some (.string S))/\
 Aj c/\Aj x/\Aj y/\Aj z/\S.size<=140737488355328
def IC (w:jj) (a:Option Addr) (b:Nat):Prop:=b<=maxLen/\∀i,i<b->∃c x y z S,TA w a i c x y z S
theorem Ku {n:Int} (h:(Lit.int .i64 n).wf=true):Aj n:=by
 simp only [Lit.wf,Bool.and_eq_true,decide_eq_true_eq] at h;have a:IntKind.i64.min= -9223372036854775808:=ji
 have b:IntKind.i64.max=9223372036854775807:=ji
 unfold Aj;omega
theorem Ow {H:Type} {P:Program} {e:TypeId}:∀{l:List (DataW H)} {d:DataW H},d∈l->∀n∈d.weights P e,n∈DataW.weightsAll P e l
 |[],d,h,_,_=>by cases h
 |x::l,d,h,n,hn=>by
  rw [DataW.weightsAll,jT];rcases ja.1 h with rfl|h
  .exact Or.inl hn
  .exact Or.inr (Ow h n hn)
theorem UB {H:Type} {enc:TypeId×Value->H} {W:jj} {c:Nat->Bool} {g:Bool} {u:Nat} {J:List Value} {x:DataW H×List MemPlace} (h:DataW.trod enc Tryz.prog W 0 c g u 22 J=some x)
  (E:∀n∈x.1.weights Tryz.prog 22,n<=reachBytes):∃a l cap,J=[.slice a l cap]/\IC W a l:=by
 rcases open_slice Tryz.underlying22 h with ⟨rfl,_⟩|⟨a,l,cap,m,n,D,Pl,rfl,_,hl,hm,v,F,r⟩
 .exact ⟨none,0,0,rfl,Nat.zero_le _,fun i K=>by omega⟩
 .refine ⟨some a,l,cap,rfl,jX hl hm,fun i K=>?_⟩;obtain ⟨cs',L,hd⟩:=r i (by subst v;split <;>omega);obtain ⟨xs,k,_,hx,s,G,w⟩:=DataW.trod_struct Tryz.underlying28 hd;have M:Tryz.prog.cellsOf 28=5:=by kernel_rfl
  have p:Tryz.prog.cellsOf 3=1:=by kernel_rfl
  have I:Tryz.prog.cellsOf 9=1:=by kernel_rfl
  rw [M] at L s;obtain ⟨_,_,f⟩:=World.cells?_some L
  match cs',s,xs,G with
  |[c0,c1,c2,c3,c4],_,[y0,y1,y2,y3,y4],_=>
   have N:DataW.trod enc Tryz.prog W 0 c g k 3 (([c0,c1,c2,c3,c4].drop 0).take (Tryz.prog.cellsOf 3))=some y0:=w 0 _ rfl;rw [p] at N;have O:DataW.trod enc Tryz.prog W 0 c g k 3 (([c0,c1,c2,c3,c4].drop 1).take (Tryz.prog.cellsOf 3))=some y1:=w 1 _ rfl;rw [p] at O;have P:DataW.trod enc Tryz.prog W 0 c g k 3 (([c0,c1,c2,c3,c4].drop 2).take (Tryz.prog.cellsOf 3))=some y2:=w 2 _ rfl;rw [p] at P;have Q:DataW.trod enc Tryz.prog W 0 c g k 3 (([c0,c1,c2,c3,c4].drop 3).take (Tryz.prog.cellsOf 3))=some y3:=w 3 _ rfl;rw [p] at Q;have R:DataW.trod enc Tryz.prog W 0 c g k 9 (([c0,c1,c2,c3,c4].drop 4).take (Tryz.prog.cellsOf 9))=some y4:=w 4 _ rfl;rw [I] at R;obtain ⟨n0,S,_,w0⟩:=DataW.trod_int Tryz.underlying3 N;obtain ⟨n1,T,_,w1⟩:=DataW.trod_int Tryz.underlying3 O;obtain ⟨n2,U,_,w2⟩:=DataW.trod_int Tryz.underlying3 P;obtain ⟨n3,V,_,w3⟩:=DataW.trod_int Tryz.underlying3 Q;obtain ⟨y,X,e5,w4⟩:=DataW.trod_string Tryz.underlying9 R;simp only [List.drop_zero,List.drop_succ_cons,List.take_succ_cons,List.take_zero,List.cons.injEq,and_true] at S T U V X;subst S T U V X e5
   have aa:y.data.toList.length<=reachBytes:=by
    refine E _ ?_;rw [F];simp only [DataW.weights,Tryz.underlying22,ja,jT];refine Or.inr (Or.inl (Ow (d:=D i) (List.mem_map.2 ⟨i,List.mem_range.2 K,rfl⟩) _ ?_));have hD:D i=_:=(congrArg Prod.fst hx:_);rw [hD];simp [DataW.weights,DataW.weightsEach,Tryz.underlying28]
   have z:y.size<=140737488355328:=by
    have h1:y.size=y.data.toList.length:=rfl;have h2:reachBytes<2 ^ 47:=reachBytes_lt;omega
   obtain ⟨b,o,A⟩:=a;have Y:=f 0 jo
   have t:A=none:=by
    obtain ⟨ab,B,_⟩:=r 0 (by subst v;split <;>omega);rw [M] at B;obtain ⟨_,ac,q⟩:=World.cells?_some B;have Z:=q 0 jo;rw [jG jo] at Z;simpa [Addr.add] using World.cell?_spot Z
   subst t;have q1:=f 1 jo;have q2:=f 2 jo;have q3:=f 3 jo;have q4:=f 4 jo;have C:∀j k,((⟨b,o,none⟩:Addr).add j).add k=⟨b,o+j+k,none⟩:=fun j k=>by unfold Addr.add;split <;>split <;>simp_all
   rw [C] at Y q1 q2 q3 q4;exact ⟨n0,n1,n2,n3,y,⟨b,o,rfl,Y,q1,q2,q3,q4⟩,Ku w0,Ku w1,Ku w2,Ku w3,z⟩
def JC (w:jj) (a:Option Addr) (k:Nat):Prop:=∀i,i<k->∀b o S,a=some ⟨b,o,none⟩->w.cell? ⟨b,o+i * 5+4,none⟩=some (.string S)->S.size<=65536
def Vd (a:Option Addr) (b:Nat) (w:jj) (e:Ending) (w':jj):Prop:=∃x,e= .returned (.bool x)/\w=w'/\(x=true->b<=65536/\JC w a b)
theorem Wk (a:Option Addr) (c cap:Nat) (w:jj) (h:IC w a c):Calls Tryz.prog 16 #[.slice a c cap] w (Vd a c w):=by
 by_cases A:65536<c
 .have B:decide ((c:Int)>65536)=true:=jL jo;go_enter Tryz.func16,Tryz.ntmps16;go_wp2;go_ret;exact ⟨false,rfl,rfl,js⟩
 .have B:decide ((c:Int)>65536)=false:=jK jo;have C:=jp h;have g:c<=65536:=jo
  clear h A;go_enter Tryz.func16,Tryz.ntmps16;go_wp2;go_loopg [3,4] c (fun r D E wr=>∃k s:Nat,D= .int .i64 (s:Int)/\E= .int .i64 (k:Int)/\k<=c/\s<=65536/\r=c - k/\wr=w/\JC w a k)
  case atStart=>exact ⟨0,c,rfl,rfl,jo,jo,jo,rfl,fun i F=>by omega⟩
  case round=>
   obtain ⟨k,s,rfl,rfl,K,L,M,rfl,d⟩:=hrel;have f:=jp d;clear d;by_cases l:k<c
   .obtain ⟨N,x,y,z,S,⟨b,o,rfl, -, -, -, -,G⟩, -, -, -, -,O⟩:=C.out.2 k l;have m:decide ((k:Int)<(c:Int))=true:=jL jo;have H:wrap64 ((s:Int)+(S.size:Int))=((s+S.size:Nat):Int):=by unfold wrap64;omega
    have u:IntKind.i64.wrap ((s:Int)+(S.size:Int))=((s+S.size:Nat):Int):=by rw [IntKind.wrap_i64];omega
    by_cases I:65536<s+S.size
    .have n:decide (((s+S.size:Nat):Int)>65536)=true:=jL jo;go_wp2;go_ret;exact ⟨false,rfl,rfl,js⟩
    .have n:decide (((s+S.size:Nat):Int)>65536)=false:=jK jo
     have p:Hid (JC wr (some ⟨b,o,none⟩) (k+1)):=fun i F P o' J v q=>by
      simp only [Option.some.injEq,Addr.mk.injEq,and_true] at v;obtain ⟨rfl,rfl⟩:=v;by_cases t:i=k
      .subst t;rw [G] at q;cases q;omega
      .exact f.out i jo b o J rfl q
     go_wp2;go_roundg (c - (k+1))
     case measure=>omega
     case rel=>exact ⟨k+1,s+S.size,by go_num,by go_num,jo,jo,rfl,rfl,p.out⟩
   .have m:decide ((k:Int)<(c:Int))=false:=jK jo;obtain rfl:k=c:=jo
    go_wp2;go_ret;exact ⟨true,rfl,rfl,fun _=>⟨g,f.out⟩⟩
theorem Xq (a:Aw) (s:Nat) (x:WG) (k A B C:Int) (S:jt) (w:jj) (h:Ao a s x w) (b:s<=69999) (c:Aj A) (d:Aj B) (f:Aj C) (g:S.size<=65536):
  Calls Tryz.prog 22 #[.pointer (some ⟨x.p,0,none⟩),AB k A B C S] w (Hg a x.p (s+1)):=by
 by_cases o:k=1\/k=2\/k=18\/k=19\/k=20\/k=21\/k=25
 .exact Rt a s x k A B C S w h b c d f g o
 by_cases q:k=4\/k=5\/k=6\/k=8\/k=9\/k=10\/k=11\/k=12\/k=14\/k=15\/k=16\/k=17
 .exact Fc a s x k A B C S w h b c d f g q
 by_cases r:k=3
 .subst r;exact step_new a s x A B C S w h b c d f g
 by_cases t:k=7
 .subst t;exact VU a s x A B C S w h b c d f g
 by_cases i:k=13
 .subst i;exact WN a s x A B C S w h b c d f g
 by_cases l:k=22
 .subst l;exact Rn a s x A B C S w h b c d f g
 by_cases m:k=23
 .subst m;exact TR a s x A B C S w h b c d f g
 by_cases n:k=24
 .subst n;exact Us a s x A B C S w h b c d f g
 exact UU a s x k A B C S w h b c d f g ⟨jo,jo,jo,jo,jo,jo,jo,jo,jo,jo,jo,jo,jo,jo,jo,jo,jo,jo,jo,jo,jo,jo,jo,jo,jo⟩
def KF (a:Int):Prop:=0<=a
theorem Ao.rebase {W:jj} {b a:List (Nat×Int)} {s:Nat} {x:WG} {w:jj} (h:Ao ⟨W,b⟩ s x w) (c:∀e∈a,e.1∉x.M/\e.1<w.heap.size/\w.cell? ⟨e.1,0,none⟩=some (.int .i64 e.2)):Ao ⟨W,a⟩ s x w:=by
 obtain ⟨d,f,r⟩:=h;exact ⟨d,⟨f.1,c⟩,r⟩
def Ke (p:Nat):WG:=⟨p,[p],⟨0,0,0,0,ByteArray.empty,0⟩,.slice none 0 0,.slice none 0 0,.slice none 0 0,.slice none 0 0,[],[],[]⟩
theorem Ao.start (w:jj) (t:TypeId):Ao ⟨w,[]⟩ 0 (Ke w.heap.size) (w.alloc (.cells #[.int .i64 0,.int .i64 0,.int .i64 0,.int .i64 0,.string ByteArray.empty,.int .i64 0,.slice none 0 0,.slice none 0 0,.slice none 0 0,.slice none 0 0] t)):=by
 refine ⟨?_,?_,?_,?_,?_,?_,?_,?_,?_,?_,?_,?_,?_,?_⟩
 .exact Cz.new w #[.int .i64 0,.int .i64 0,.int .i64 0,.int .i64 0,.string ByteArray.empty,.int .i64 0,.slice none 0 0,.slice none 0 0,.slice none 0 0,.slice none 0 0] t js
 .exact ⟨Aa.step_alloc (jD w) _,fun e c=>by cases c⟩
 .simp [WG.blocks,Ke,Value.ownBlock]
 .intro j b;simpa [WG.blocks,Ke,Value.ownBlock] using b
 .intro j b;have:j=w.heap.size:=by simpa [Ke] using b
  subst this;exact ⟨jH _,js⟩
 .have a:Aj 0:=⟨ji,ji⟩;exact ⟨a,a,a,a,a,by show (0:Nat)<=maxLen;unfold maxLen;omega⟩
 .exact World.ownsRow_nil _ _ _ _
 .exact World.ownsRow_nil _ _ _ _
 .intro t d;cases d
 .exact World.ownsRow_nil _ _ _ _
 .exact World.ownsRow_nil _ _ _ _
 .exact ⟨jH _,jH _,jH _⟩
 .intro l f;cases f
 .intro y g;cases g
def Yy (w:jj) (e:Ending) (w':jj):Prop:=e= .returned (.int .i64 (-1))/\Aa w w'
theorem UZ (a:Option Addr) (c cap:Nat) (g:Int) (w:jj) (h:IC w a c) (q:JC w a c) (hl:c<=65536) (_hh:KF g):
  Calls Tryz.prog 18 #[.slice a c cap,.int .i64 g] w (Yy w):=by
 have W:=jp h;have E:=jp q;clear h q;go_enter Tryz.func18,Tryz.ntmps18;go_wp2;have s:=Ao.start w 42;have t:=jp s;clear s;go_loopg [6] c (fun r X wr=>∃(j:Nat) (x:WG),X= .int .i64 (j:Int)/\j<=c/\r=c - j/\Ao ⟨w,[]⟩ j x wr/\x.p=w.heap.size)
 case atStart=>exact ⟨0,_,rfl,jo,jo,t.out,rfl⟩
 case round=>
  obtain ⟨j,x,rfl,hj,rfl,hx,F⟩:=hrel;clear t;by_cases u:j<c
  .obtain ⟨n,N,O,P,S,⟨Y,Z,rfl,Q,R,T,U,G⟩,ik,ia,ib,ic, -⟩:=W.out.2 j u;have hS:=E.out j u Y Z S rfl G;have d:Aa w wr:=hx.2.1.1;have r0:=d.cell Q;have r1:=d.cell R;have r2:=d.cell T;have r3:=d.cell U;have r4:=d.cell G;have H:decide ((j:Int)<(c:Int))=true:=jL jo;have V:∀i∈x.M,i<wr.heap.size:=fun i hi=>(hx.2.2.2.2.1 i hi).2
   have HX:=jp hx;clear Q R T U G hx;go_wp2_with fail;obtain ⟨wo,v,y,I,o1,o2,o3,o4⟩:=BV wr (.int .i64 n) (.int .i64 N) (.int .i64 O) (.int .i64 P) (.string S) 28;rw [v];clear v;have k:wr.heap.size∉x.M:=fun e=>by have:=V _ e;omega
   have z:wr.heap.size<wo.heap.size:=jF I
   have A : Ao ⟨w, [(wr.heap.size, n)]⟩ j x wo := (HX.out.later y).rebase (fun e J => by
     have : e = (wr.heap.size, n) := by simpa using J
     subst this
     exact ⟨k, z, I⟩)
   have f:=Xq ⟨w,[(wr.heap.size,n)]⟩ j x n N O P S wo A jo ia ib ic hS;rw [F] at f;unfold AB at f;clear HX A I o1 o2 o3 o4 y k V r0 r1 r2 r3 r4;generalize wr.heap.size=po at *;refine f.mono ?_;rintro e K ⟨rfl,D,L,B⟩;obtain ⟨-,C,p0⟩:=L.2.1.2 (po,n) js;simp only at p0 C;have l:Ao ⟨w,[]⟩ (j+1) D K:=L.rebase (fun e J=>by cases J);have m:=fun o (b:Aa K o)=>Zc ⟨w,[]⟩ (j+1) D o (l.later b) jo
   rw [B] at m;have H3:Hid (∀o,Aa K o->Ao ⟨w,[]⟩ (j+1) D o):=fun o b=>l.later b
   clear L l f;go_wp2_with fail;refine (m _ jq).mono ?_;rintro e w4 ⟨b,rfl,aa,rfl⟩;clear m;go_wp2;go_roundg (c - (j+1))
   case measure=>omega
   case rel=>exact ⟨j+1,D,by go_num,jo,rfl,H3.out _ jq,B⟩
  .have H:decide ((j:Int)<(c:Int))=false:=jK jo;have HB:Hid (Aa w wr):=hx.2.1.1;clear hx;go_wp2;go_ret;exact ⟨rfl,HB.out⟩
theorem Tt (a:Option Addr) (c cap:Nat) (d:Int) (w:jj) (h:IC w a c) (v:KF d):
  Calls Tryz.prog 15 #[.slice a c cap,.int .i64 d] w (Ew w fun x=>x=true):=by
 have k:=Wk a c cap w h
 have g := fun A (b : Aa w A) (q : c <= 65536) (m : JC w a c) => UZ a c cap d A ⟨h.1, fun i n => by
   obtain ⟨B, x, y, z, S, ⟨s, o, e, C, D, E, F, p⟩, r⟩ := h.2 i n
   exact ⟨B, x, y, z, S, ⟨s, o, e, b.cell C, b.cell D, b.cell E, b.cell F, b.cell p⟩, r⟩⟩ (fun i n K o' L t G => by
   obtain ⟨B, x, y, z, S, ⟨s, o, e, C, D, E, F, p⟩, r⟩ := h.2 i n
   rw [e] at t
   simp only [Option.some.injEq, Addr.mk.injEq, and_true] at t
   obtain ⟨rfl, rfl⟩ := t
   have H := b.cell p
   rw [H] at G
   cases G
   exact m i n s o _ e p) q v
 clear h v;go_enter Tryz.func15,Tryz.ntmps15;go_wp2_with fail;refine k.mono ?_;rintro e M ⟨x,rfl,rfl,hx⟩;clear k;cases x
 .clear g;go_wp2;go_ret;exact ⟨_,rfl,jD _,rfl⟩
 .obtain ⟨q,m⟩:=hx rfl;clear hx;go_wp2_with fail;refine (Ux _).mono ?_;rintro e I ⟨y,rfl,l,rfl⟩;have f:=g I l q m;clear g m;go_wp2_with fail;refine f.mono ?_;rintro e N ⟨rfl,u⟩;have J:=l.trans u;clear f;go_wp2;go_ret;exact ⟨_,rfl,J,rfl⟩
end Go.Proofs.YtpapdkhjdelfcaaGreat
