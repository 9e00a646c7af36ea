import Derived.Test.YtpapdkhjdelfcaaGreatMAW
import Derived.Test.YtpapdkhjdelfcaaGreatMBK
import Derived.Test.YtpapdkhjdelfcaaGreatMBN
import Derived.Deep.AppendLies
namespace Go.Proofs.YtpapdkhjdelfcaaGreat
open Go.RowKit
set_option maxRecDepth 100000
set_option maxHeartbeats 4000000
def DA (c:Int) (n:Int):Int:=(if c<0 then -(c+1) else c) % n
theorem FQ (c n:Int) (a:0<n):0<=DA c n/\DA c n<n:=⟨Int.emod_nonneg _ jo,Int.emod_lt_of_pos _ a⟩
theorem FJ (c n:Int) (w:jj) (b:Aj c) (g:0<n) (d:n<=4611686018427387904):
  Calls Tryz.prog 34 #[.int .i64 c,.int .i64 n] w fun e w'=>e= .returned (.int .i64 (DA c n))/\w=w':=by
 obtain ⟨i,k⟩:=b;have f:(n==0)=false:=by rw [jI];omega
 by_cases a:c<0
 .have HX:Hid (DA c n=(-(c+1)) % n):=by show DA c n=_;rw [DA,if_pos a]
  generalize DA c n=X at *;go_enter Tryz.func34,Tryz.ntmps34;go_wp2;go_ret;exact ⟨BO (by rw [HX.out,<-Int.neg_tmod,Int.tmod_eq_emod_of_nonneg jo]),rfl⟩
 .have HX:Hid (DA c n=c % n):=by show DA c n=_;rw [DA,if_neg a]
  generalize DA c n=X at *;go_enter Tryz.func34,Tryz.ntmps34;go_wp2;go_ret;exact ⟨BO HX.out.symm,rfl⟩
theorem Px {w:jj} {v:ju} {L:List ByteArray} (h:Ap w v L.length (L.map Value.string)):∃b cap,v= .slice b L.length cap/\∀j (a:j<L.length),∃g,b=some ⟨g,0,none⟩/\w.cell? ⟨g,j,none⟩=some (.string L[j]):=by
 rcases h with ⟨c,d,_⟩|⟨g,cap,f,k,l,i⟩
 .exact ⟨none,0,by rw [c,d],fun j a=>by omega⟩
 .exact ⟨_,cap,f,fun j a=>⟨g,rfl,i j _ (by simp [a])⟩⟩
theorem LQ (X Y:List ByteArray) (A B:ju) (w:jj) (hx:Ap w A X.length (X.map Value.string)) (C:Ap w B Y.length (Y.map Value.string)) (O:X.length<=65536) (I:Y.length<=65536):
  Calls Tryz.prog 44 #[A,B] w (Ew w (Co (X=Y))):=by
 obtain ⟨P,Q,rfl,b⟩:=Px hx;obtain ⟨R,S,rfl,c⟩:=Px C;obtain ⟨o,f⟩:∃o:Prop,o=(X=Y):=⟨_,rfl⟩;rw [<-f];have g:=jp f;clear f hx C;by_cases a:X.length=Y.length
 rotate_left
 .have v:((X.length:Int) !=(Y.length:Int))=true:=by rw [bne_iff_ne];omega
  clear b c;go_enter Tryz.func44,Tryz.ntmps44;go_wp2;go_ret;exact ⟨_,rfl,jD _,⟨fun h=>(by cases h),fun h=>(by rw [g.out] at h;exact absurd (congrArg List.length h) a)⟩⟩
 have v:((X.length:Int) !=(Y.length:Int))=false:=by rw [jc];omega
 have D:=jp a;clear a;go_enter Tryz.func44,Tryz.ntmps44;go_wp2;go_loopg [5] X.length (fun r n wr=>Aa w wr/\∃k:Nat,r=X.length - k/\k<=X.length/\n= .int .i64 k/\∀j (p:j<X.length) (q:j<Y.length),j<k->X[j]=Y[j])
 case atStart=>exact ⟨jD _,0,jo,jo,rfl,fun j _ _ h=>by omega⟩
 case round=>
  obtain ⟨x,k,T,U,rfl,d⟩:=hrel;have E:=jp d;clear d;by_cases y:k<X.length
  .have s:k<Y.length:=by have:=D.out;omega
   obtain ⟨V,rfl,x0⟩:=b k y;obtain ⟨W,rfl,F⟩:=c k s;have J:=x.cell x0;have K:=x.cell F;clear b c x0 F
   have i:Hid (X[k]=Y[k]->∀j (p:j<X.length) (q:j<Y.length),j<k+1->X[j]=Y[j]):=fun e j p q Z=>by
    by_cases L:j=k
    .subst L;exact e
    .exact E.out j p q jo
   have z:Hid (X[k]≠Y[k]->¬o):=fun h G=>by
    rw [g.out] at G;subst G;exact h rfl
   have H:Hid (((X[k].toList==Y[k].toList)=true)↔X[k]=Y[k]):=FE;generalize X[k]=M at *;generalize Y[k]=N at *;cases l:M.toList==N.toList
   .have t:=jp (z.out (fun e=>by rw [H.out.2 e] at l;cases l));go_wp2_with fail;go_quiet (fail);go_wp2;go_ret;exact ⟨_,rfl,jq,⟨fun h=>(by cases h),fun h=>absurd h t.out⟩⟩
   .have m:=jp (i.out (H.out.1 l));go_wp2_with fail;go_quiet (fail);go_wp2;go_roundg (X.length - (k+1))
    case measure=>omega
    case rel=>exact ⟨jq,k+1,rfl,jo,by go_num,m.out⟩
  .have u:Hid o:=by
    show o;rw [g.out];exact List.ext_getElem D.out (fun j p q=>E.out j p q jo)
   clear b c
   go_wp2
   go_ret
   exact ⟨_,rfl,x,⟨fun _=>u.out,fun _=>rfl⟩⟩
theorem Zd5 {M:jr} {s:Nat} {x:AT} {w:jj} (d:Int) (h:AG M s x w) (a:¬(0<=d/\d<x.ps.length)):
  Calls Tryz.prog 77 #[.pointer (some ⟨s,0,none⟩),.int .i64 d] w (Ff w ([],4)):=Sb s d w ((h.dp d).2 jo)
theorem Zfc {M:jr} {s:Nat} {x:AT} {w:jj} (d:Int) (h:AG M s x w) (a:¬(0<=d/\d<x.ps.length)):
  Calls Tryz.prog 82 #[.pointer (some ⟨s,0,none⟩),.int .i64 d] w (F4 w (0,4)):=UK s d w ((h.dp d).2 jo)
theorem ZfA {M:jr} {s:Nat} {x:AT} {w:jj} (d:Int) (k:jt) (h:AG M s x w) (a:¬(0<=d/\d<x.ps.length)):
  Calls Tryz.prog 84 #[.pointer (some ⟨s,0,none⟩),.int .i64 d,.string k] w (EH w (⟨#[]⟩,4)):=Vu s d k w ((h.dp d).2 jo)
theorem VS {M:jr} {s:Nat} {x:AT} {w:jj} (d:Int) (t:jt) (h:AG M s x w) (a:¬(0<=d/\d<x.ps.length)):
  Calls Tryz.prog 79 #[.pointer (some ⟨s,0,none⟩),.int .i64 d,.string t] w (KM w 4):=UA s d t w ((h.dp d).2 jo)
theorem YO {M:jr} {s:Nat} {x:AT} {w:jj} (d:Int) (h:AG M s x w) (a:¬(0<=d/\d<x.ps.length)):
  Calls Tryz.prog 81 #[.pointer (some ⟨s,0,none⟩),.int .i64 d] w (KM w 4):=VM s d w ((h.dp d).2 jo)
theorem WY (c:Ac) (w:jj) (l:¬c.OK):Calls Tryz.prog 19 #[.agg c.cells] w fun e w'=>e= .returned (.tuple #[.pointer none,.int .i64 1])/\Aa w w':=by
 have a:=fun m=>OI c m
 have n:=jp l;clear l;obtain ⟨alg,i,f,g,key,b⟩:=c;simp only [Ac.cells] at *;go_enter Tryz.func19,Tryz.ntmps19;go_wp2_with fail;refine (a _).mono ?_;rintro e o ⟨x,rfl,d,hx⟩;have k:Aa w o:=(Aa.step_alloc (jD w) _).trans d;cases x
 .clear a hx d;go_wp2;go_ret2;exact ⟨rfl,k⟩
 .exact absurd (hx.1 rfl) n.out
def Cz (p:Nat) (L:List Value) (w:jj):Prop:=(∀o u,L[o]?=some u->w.cell? ⟨p,o,none⟩=some u)/\∀o,o<L.length->w.frozen? ⟨p,o,none⟩=false
theorem Cz.but {M:jr} {p:Nat} {L:List Value} {w w':jj} (h:Cz p L w) (k:Ab M w w') (a:p∉M):Cz p L w':=
 ⟨fun o u c=>k.cell (h.1 o u c) a,fun o b=>k.frozen (h.1 o L[o] (by simp [b])) a (h.2 o b)⟩
structure Au where
 p:Nat
 speaks:Int
 has:Value
 gen:Int
 format:Int
 got:Value
 gs:List ByteArray
 no:Bool
 hx:Option HX
def Au.blocks (x:Au):List Nat:=x.p::x.got.ownBlock.toList
def Au.At (M:jr) (x:Au) (w:jj):Prop:=BX w x.p x.speaks x.has x.gen x.format x.got x.no/\(0<=x.speaks/\x.speaks<=3)/\Aj x.gen/\Aj x.format/\Di w x.got x.gs/\x.gs.length<=65535/\Do (Ay M w) x.has x.hx/\∀g,x.got.ownBlock=some g->g≠x.p
def Au.rel (x:Au) (p:AF):Prop:=Zcr x.speaks x.hx x.gen x.format x.gs x.no p
structure Ah where
 a:Nat
 q:Nat
 c:Ac
 B:List BK
 g:Int
 vb:Value
 vs:Value
 vp:Value
 ps:List Au
 L:List Nat
 pp:List (Nat×AF×List Nat)
def Ah.even (y:Ah):Prop:=y.pp.length=y.ps.length/\∀(k:Nat) (z:Au) (q:Nat×AF×List Nat),y.ps[k]?=some z->y.pp[k]?=some q->z.rel q.2.1
def Ah.svp (x:Ah):AT:=⟨x.c,x.B,x.g,x.L,x.pp⟩
def Ah.blocks (x:Ah):List Nat:=x.a::x.q::((x.vp.ownBlock.toList++x.ps.flatMap Au.blocks)++(x.L++Bh x.pp))
theorem Ah.own_in (x:Ah) {j:Nat} (h:j∈x.svp.own x.q):j∈x.blocks:=by
 unfold AT.own Ah.svp at h;unfold Ah.blocks;simp only [ja,jT] at h |-;rcases h with h|h|h
 .exact Or.inr (Or.inl h)
 .exact Or.inr (Or.inr (Or.inr (Or.inl h)))
 .exact Or.inr (Or.inr (Or.inr (Or.inr h)))
def Ah.cells (x:Ah):List Value:=[.pointer (some ⟨x.q,0,none⟩),.int .i64 x.c.alg,.int .i64 x.c.slots,.int .i64 x.c.points,.int .i64 x.c.probes,.string x.c.key,.int .i64 x.c.formats,x.vb,x.vs,x.vp]
def Ah.At (base:Nat) (M:jr) (x:Ah) (w:jj):Prop:=Cz x.a x.cells w/\AG M x.q x.svp w/\Am (Ay M w) x.vb x.B/\AH x.B/\x.c.OK/\(0<=x.g/\x.g<=70000/\(x.g=0->x.B=[]))/\DQ (Ay M w) x.vs x.c x.B x.g/\
 w.ownsRow base 101 1 x.vp x.ps.length (x.ps.map fun y=>Value.pointer (some ⟨y.p,0,none⟩))/\x.ps.length<=4/\∀y∈x.ps,y.At M w
structure GA where
 g1:Nat
 g2:Nat
 T:List ByteArray
theorem Do.masks {M N:jr} {w w':jj} {v:ju} {hx:Option HX} (h:Do (Ay M w) v hx) (k:Ab N w w') (a:∀j∈N,j∈M\/w.heap.size<=j):Do (Ay M w') v hx:=h.later (k.mono a)
theorem DQ.masks {M N:jr} {w w':jj} {v:ju} {c:Ac} {B:List BK} {a:Int} (h:DQ (Ay M w) v c B a) (k:Ab N w w') (b:∀j∈N,j∈M\/w.heap.size<=j):DQ (Ay M w') v c B a:=h.later (k.mono b)
theorem Au.At.but {M N:jr} {x:Au} {w w':jj} (h:x.At M w) (k:Ab N w w') (n:∀j∈N,j∈M\/w.heap.size<=j) (f:∀j∈x.blocks,j∉N):x.At M w':=by
 obtain ⟨⟨⟨i,o,q,r,t,u⟩,v⟩,y,z,A,c,B,C,D⟩:=h;have a:x.p∉N:=f x.p (by simp [Au.blocks]);refine ⟨⟨⟨k.cell i a,k.cell o a,k.cell q a,k.cell r a,k.cell t a,k.cell u a⟩,fun j=>?_⟩,y,z,A,?_,B,C.masks k n,D⟩
 .rw [World.frozen?_of_block (w:=w) (k.block x.p (jF i) a)];exact v j
 .rcases c with c|⟨g,cap,l,d,E⟩
  .exact Or.inl c
  .have b:g∉N:=f g (by simp [Au.blocks,l,Value.ownBlock]);refine Or.inr ⟨g,cap,l,jN d k.size,fun j s F=>?_⟩;obtain ⟨m,G,H⟩:=E j s F;exact ⟨k.cell m b,k.frozen m b G,H⟩
theorem AY {M:jr} {base:Nat} {e:TypeId} {d:Nat} {v:ju} {n:Nat} {f:List Value} {w w':jj} (h:w.ownsRow base e d v n f) (b:Ab M w w') (a:∀g,v.ownBlock=some g->g∉M):w'.ownsRow base e d v n f:=by
 refine ⟨h.1,?_⟩;rcases h.2 with l|⟨g,cap,c,i,m,k,r⟩
 .exact Or.inl l
 .exact Or.inr ⟨g,cap,c,i,m,by rw [b.block g (Array.getElem?_eq_some_iff.1 k).1 (a g (by rw [i];rfl))];exact k,r⟩
theorem Ah.At.but {base:Nat} {M N:jr} {x:Ah} {w w':jj} (h:x.At base M w) (k:Ab N w w') (b:∀j∈N,j∈M\/w.heap.size<=j) (a:∀j∈x.blocks,j∉N):x.At base M w':=by
 obtain ⟨l,m,n,o,p,q,r,s,t,c⟩:=h;have f:Aa (Ay M w) (Ay M w'):=k.mono b;refine ⟨l.but k (a _ (by simp [Ah.blocks])),m.but k (fun j d e=>a j (x.own_in e) d) b,n.later f,o,p,q,r.later f,AY s k (fun g u=>a g (by simp [Ah.blocks,u])),t,fun y i=>(c y i).but k b (fun j d=>a j ?_)⟩;simp only [Ah.blocks,ja,jT,jd];exact Or.inr (Or.inr (Or.inl (Or.inr ⟨y,i,d⟩)))
theorem IW {w w':jj} {row:Option Nat} (h:w.grownBy w' row):Ab row.toList w w':=
 Ab.mk h.os h.tape h.output h.size (fun k a b=>h.block k a (fun e=>b (by rw [<-e];simp)))
theorem Lq (base p n:Nat) (c:ju) (k:List Value) (S:jt) (w:jj) (l:w.cell? ⟨p,7,none⟩=some c) (A:w.frozen? ⟨p,7,none⟩=false) (d:w.ownsRow base 9 1 c n k) (G:n<=200000) (H:base<=w.heap.size) (m:c.ownBlock≠some p):
  Calls Tryz.prog 41 #[.pointer (some ⟨p,0,none⟩),.string S] w fun e w'=>e= .returned (.tuple #[])/\∃g cap o,Ab c.ownBlock.toList w o/\w'=o.setCell ⟨p,7,none⟩ (sl g (n+1) cap)/\o.ownsRow base 9 1 (sl g (n+1) cap) (n+1) (k++[.string S])/\(c.ownBlock=some g\/w.heap.size<=g):=by
 obtain ⟨B,C,q,r,s⟩:=info_parts Tryz.infoStr;have D:=jp d;have v:=jF l;clear d;go_enter Tryz.func41,Tryz.ntmps41;go_wp2_with (first|(at_builtin;refine wpList_append_lies _ rfl _ _ 36 rfl base 9 B (.string ByteArray.empty) 1 16 Tryz.underlying36 C q r s rfl ji _ n k rfl ?p1 ⟨w.heap.size,0,none⟩ 1 1 [.string S] rfl rfl ?d1 ?d2 ji ?d3 ?d4 ?d5 _ rfl ?_))
 case p1=>exact World.ownsRow.alloc D.out _
 try (case d1=>exact Fz _ _ _ _ js)
 case d2=>first|rfl|(intro u x;simp at x;subst x;rfl)
 case d3=>unfold maxLen;omega
 case d4=>omega
 case d5=>first|omega|(simp;omega)
 intro g cap y b a f z;have t:Ab c.ownBlock.toList w y:=(Ab.of_bel (Aa.step_alloc (jD w) _)).trans (IW a);have i:p∉c.ownBlock.toList:=fun h=>m (by simpa using h)
 have I:=t.cell l i;have J:=t.frozen l i A;have E:=jp b;have F:Hid (c.ownBlock=some g\/w.heap.size<=g):=f.imp id (fun e=>by first|omega|(rw [e];simp));clear b a f;go_wp2;go_end0;exact ⟨rfl,g,cap,y,t,rfl,E.out,F.out⟩
def Xu (H:List ByteArray) (w:jj) (e:Ending) (w':jj):Prop:=∃s,e= .returned (.string s)/\Aa w w'/\(s=ByteArray.empty\/s∈H)
theorem QI (base p n:Nat) (f:ju) (H:List ByteArray) (a:Int) (w:jj) (z:w.cell? ⟨p,7,none⟩=some f) (b:w.ownsRow base 9 1 f n (H.map Value.string)) (A:n<=200000) (r:Aj a):
  Calls Tryz.prog 39 #[.pointer (some ⟨p,0,none⟩),.int .i64 a] w (Xu H w):=by
 obtain ⟨B,cap,rfl⟩:=CP b;have C:H.length=n:=by have:=b.1;simpa using this
 by_cases t:n=0
 .subst t;clear b;go_enter Tryz.func39,Tryz.ntmps39;go_wp2;go_ret;exact ⟨_,rfl,jD _,Or.inl rfl⟩
 have u:((n:Int)==0)=false:=by rw [jI];omega
 have d:=fun v=>FJ a n v r jo jo
 obtain ⟨i,k⟩:=FQ a n jo;obtain ⟨m,l⟩:=jM i;rw [l] at d k;have x:m<n:=jo
 have c:m<H.length:=jo
 obtain ⟨g,o,q, -, -⟩:=World.ownsRow.form b jo;simp only [Value.slice.injEq,true_and] at q;obtain ⟨rfl,rfl⟩:=q;have hx:w.cell? ⟨g,m,none⟩=some (.string (H[m]'c)):=(World.ownsRow.cellAt b m jo).trans (by rw [List.getElem?_map,jG jo];rfl);have y:Hid (H[m]'c∈H):=jJ _;clear b i k l;generalize H[m]'c=s at *;go_enter Tryz.func39,Tryz.ntmps39;go_wp2_with fail;go_quiet ((go_at_call 34;refine Calls.quiet_of_same ((d _).mono fun e D h=>⟨h.1,h.2.symm⟩)));go_wp2;go_ret;exact ⟨_,rfl,jq,Or.inr y.out⟩
def Sa (p:Nat) (v:Int) (w:jj) (e:Ending) (w':jj):Prop:=e= .returned (.tuple #[])/\∃o,(o=0\/o=1\/o=2\/o=3\/o=5)/\w'=w.setCell ⟨p,o,none⟩ (.int .i64 v)
theorem Rz (p:Nat) (L:List Value) (k v:Int) (w:jj) (h:Cz p L w) (c:6<=L.length) (a:0<=k) (b:k<5):
  Calls Tryz.prog 50 #[.pointer (some ⟨p,0,none⟩),.int .i64 k,.int .i64 v] w (Sa p v w):=by
 have d:=h.1 0 L[0] js;have f:=h.1 1 L[1] js;have g:=h.1 2 L[2] js;have i:=h.1 3 L[3] js;have l:=h.1 5 L[5] js;have m:=h.2 0 jo;have n:=h.2 1 jo;have o:=h.2 2 jo;have q:=h.2 3 jo;have r:=h.2 5 jo;clear h;generalize L[0]=u0 at *;generalize L[1]=u1 at *;generalize L[2]=u2 at *;generalize L[3]=u3 at *;generalize L[5]=u5 at *;rcases (show k=0\/k=1\/k=2\/k=3\/k=4 by omega) with rfl|rfl|rfl|rfl|rfl
 all_goals
  go_enter Tryz.func50,Tryz.ntmps50;go_wp2;go_end0;exact ⟨rfl,_,js,rfl⟩
theorem Cz.later {p:Nat} {L:List Value} {w w':jj} (h:Cz p L w) (k:Aa w w'):Cz p L w':=h.but (M:=[]) (Ab.of_bel k) js
theorem Cz.set {p:Nat} {L:List Value} {w:jj} (h:Cz p L w) (o:Nat) (u:ju):Cz p (L.set o u) (w.setCell ⟨p,o,none⟩ u):=by
 refine ⟨fun j x hx=>?_,fun j c=>by rw [Ag];exact h.2 j (by simpa using c)⟩;by_cases a:o=j
 .subst a;have b:=(List.getElem?_eq_some_iff.1 hx).1;rw [List.length_set] at b;rw [List.getElem?_set_self b] at hx;cases hx;exact Bc (h.1 o L[o] (by simp [b]))
 .rw [List.getElem?_set_ne a] at hx;rw [Ad (Or.inr a)];exact h.1 j x hx
structure WG where
 p:Nat
 M:List Nat
 c:Ac
 vl:Value
 vh:Value
 vls:Value
 vlw:Value
 prs:List Ah
 H:List ByteArray
 lss:List GA
def WG.cells (x:WG):List Value:=[.int .i64 x.c.alg,.int .i64 x.c.slots,.int .i64 x.c.points,.int .i64 x.c.probes,.string x.c.key,.int .i64 x.c.formats,x.vl,x.vh,x.vls,x.vlw]
def WG.blocks (x:WG):List Nat:=x.p::(x.vl.ownBlock.toList++x.vh.ownBlock.toList++x.vls.ownBlock.toList++x.vlw.ownBlock.toList++x.lss.flatMap (fun l=>[l.g1,l.g2])++x.prs.flatMap Ah.blocks)
def GA.At (base:Nat) (l:GA) (w:jj):Prop:=w.ownsRow base 9 1 (sl l.g1 l.T.length l.T.length) l.T.length (l.T.map Value.string)/\w.ownsRow base 9 1 (sl l.g2 l.T.length l.T.length) l.T.length (l.T.map Value.string)/\l.T.length<=65536
structure Aw where
 W:World
 ex:List (Nat×Int)
abbrev Aw.heap (b:Aw):Array Obj:=b.W.heap
def F8 (a:Aw) (M:jr) (w:jj):Prop:=Aa a.W w/\∀e∈a.ex,e.1∉M/\e.1<w.heap.size/\w.cell? ⟨e.1,0,none⟩=some (.int .i64 e.2)
theorem F8.size {a:Aw} {M:jr} {w:jj} (h:F8 a M w):a.heap.size<=w.heap.size:=h.1.size
theorem F8.trans {c:Aw} {M:jr} {w w':jj} (h:F8 c M w) (b:Aa w w'):F8 c M w':=⟨h.1.trans b,fun e a=>⟨(h.2 e a).1,jN (h.2 e a).2.1 b.size,b.cell (h.2 e a).2.2⟩⟩
theorem Ab.belX {N M M':jr} {a:Aw} {w w':jj} (h:F8 a M w) (b:Ab N w w') (f:∀j∈N,a.heap.size<=j) (g:∀j∈N,j∈M) (i:∀j∈M',j∈M\/w.heap.size<=j):F8 a M' w':=by
 refine ⟨Ab.belTo h.1 b f,fun e k=>?_⟩;obtain ⟨d,l,m⟩:=h.2 e k;exact ⟨fun c=>(i _ c).elim d (fun n=>by omega),jN l b.size,b.cell m (fun c=>d (g _ c))⟩
def Ao (b:Aw) (s:Nat) (x:WG) (w:jj):Prop:=Cz x.p x.cells w/\F8 b x.M w/\x.blocks.Nodup/\(∀j∈x.blocks,j∈x.M)/\(∀j∈x.M,b.heap.size<=j/\j<w.heap.size)/\x.c.Fit/\
 w.ownsRow b.heap.size 59 1 x.vl x.prs.length (x.prs.map fun y=>Value.pointer (some ⟨y.a,0,none⟩))/\
 w.ownsRow b.heap.size 9 1 x.vh x.H.length (x.H.map Value.string)/\(∀t∈x.H,t.size<=1099511627776)/\
 w.ownsRow b.heap.size 36 1 x.vls x.lss.length (x.lss.map fun l=>sl l.g1 l.T.length l.T.length)/\w.ownsRow b.heap.size 36 1 x.vlw x.lss.length (x.lss.map fun l=>sl l.g2 l.T.length l.T.length)/\
 (x.prs.length<=s/\x.H.length<=s/\x.lss.length<=s)/\(∀l∈x.lss,l.At b.heap.size w)/\∀y∈x.prs,y.At b.heap.size x.M w/\y.g<=s/\y.even
theorem Ao.later {k:Aw} {s:Nat} {x:WG} {w w':jj} (h:Ao k s x w) (b:Aa w w'):Ao k s x w':=by
 obtain ⟨p,q,r,t,m,u,v,z,A,d,f,g,a,c⟩:=h
 exact ⟨p.later b, q.trans b, r, t, fun j n => ⟨(m j n).1, jN (m j n).2 b.size⟩, u, BG v b, BG z b, A, BG d b, BG f b, g, fun l i => ⟨BG (a l i).1 b, BG (a l i).2.1 b, (a l i).2.2⟩,
   fun y o => ⟨(c y o).1.but (N := []) (Ab.of_bel b) js js, (c y o).2⟩⟩
theorem Ao.up {l:Aw} {s t:Nat} {x:WG} {w:jj} (h:Ao l s x w) (A:s<=t):Ao l t x w:=by
 obtain ⟨m,n,o,p,q,r,u,v,z,f,g,⟨a,b,c⟩,i,d⟩:=h;exact ⟨m,n,o,p,q,r,u,v,z,f,g,⟨jo,jo,jo⟩,i,fun y k=>⟨(d y k).1,by have:=(d y k).2.1;omega,(d y k).2.2⟩⟩
theorem Lv {j:Nat} {M:jr} {w:jj} (h:j∈M\/w.heap.size<=j):Ay (j::M) w=Ay M w:=by
 unfold Ay;congr 1;apply Array.ext
 .simp
 .intro i c d;have f:i<w.heap.size:=by simpa using c
  simp only [Array.getElem_mapIdx,ja];by_cases b:i∈M
  .simp [b]
  .by_cases a:i=j
   .subst a;rcases h with h|h
    .exact absurd h b
    .omega
   .simp [b,a]
theorem Au.At.cons {M:jr} {x:Au} {w:jj} (h:x.At M w) {j:Nat} (a:j∈M\/w.heap.size<=j):x.At (j::M) w:=by
 unfold Au.At at *;rw [Lv a];exact h
theorem Ah.At.cons {base:Nat} {M:jr} {x:Ah} {w:jj} (h:x.At base M w) {j:Nat} (a:j∈M\/w.heap.size<=j):x.At base (j::M) w:=by
 obtain ⟨c,d,f,g,i,l,m,n,o,b⟩:=h;refine ⟨c,d.wide (fun _ h=>jW _ h) (fun k p=>by rcases ja.1 p with e|e;rw [e];exact a;exact Or.inl e),?_,g,i,l,?_,n,o,fun y q=>(b y q).cons a⟩
 .rw [Lv a];exact f
 .rw [Lv a];exact m
theorem QR {p:Nat} {A O C:jr} {g:Nat} (h:(p::(A++(O++C))).Nodup) (r:O=[g]\/(g≠p/\g∉A/\g∉C)):(p::(A++([g]++C))).Nodup/\(∀j∈A,j∉p::O)/\∀j∈C,j∉p::O:=by
 rw [List.nodup_cons,List.nodup_append,List.nodup_append] at h;obtain ⟨l,o,⟨s,q,d⟩,c⟩:=h;have f:p∉A:=fun e=>l (jg _ e)
 have t:p∉O:=fun e=>l (jU _ (jg _ e))
 have i:p∉C:=fun e=>l (jU _ (jU _ e))
 refine ⟨?_,fun j k=>?_,fun j k=>?_⟩
 .rcases r with rfl|⟨u,v,w⟩
  .rw [List.nodup_cons,List.nodup_append,List.nodup_append];exact ⟨l,o,⟨s,q,d⟩,c⟩
  .rw [List.nodup_cons,List.nodup_append,List.nodup_append];refine ⟨?_,o,⟨js,q,fun a m b n=>?_⟩,fun a m b n=>?_⟩
   .simp only [jT,jP];rintro (h|h|h)
    .exact f h
    .exact u h.symm
    .exact i h
   .rw [jP.1 m];exact fun e=>w (e ▸ n)
   .rcases jT.1 n with h|h
    .rw [jP.1 h];exact fun e=>v (e ▸ m)
    .exact c a m b (jU _ h)
 .rw [ja];rintro (rfl|h)
  .exact f k
  .exact c j k j (jg _ h) rfl
 .rw [ja];rintro (rfl|h)
  .exact i k
  .exact d j h j k rfl
theorem Ao.put {z:Aw} {s:Nat} {x:WG} {w i:jj} {g cap:Nat} {S:jt} (h:Ao z s x w) (W:Ab x.vh.ownBlock.toList w i) (d:i.ownsRow z.heap.size 9 1 (sl g (x.H.length+1) cap) (x.H.length+1) (x.H.map Value.string++[.string S]))
  (I:x.vh.ownBlock=some g\/w.heap.size<=g) (hS:S.size<=1099511627776):Ao z (s+1) {x with vh:=sl g (x.H.length+1) cap,H:=x.H++[S],M:=g::x.M} (i.setCell ⟨x.p,7,none⟩ (sl g (x.H.length+1) cap)):=by
 obtain ⟨h1,X,Y,m,A,h6,h7,h8,h9,J,K,⟨s1,s2,s3⟩,L,n⟩:=h;have B:∀j∈x.vh.ownBlock.toList,j∈x.blocks:=fun j a=>by simp only [WG.blocks,ja,jT];simp [a]
 have o:x.p∈x.blocks:=by simp [WG.blocks]
 have C:g∈x.M\/w.heap.size<=g:=I.imp (fun e=>m g (B g (by simp [e]))) id
 have N:z.heap.size<=g:=by
  rcases I with e|e
  .exact (A g (m g (B g (by simp [e])))).1
  .have:=X.size;omega
 have f:Ab (x.p::x.vh.ownBlock.toList) w (i.setCell ⟨x.p,7,none⟩ (sl g (x.H.length+1) cap)):=(W.mono (fun k b=>Or.inl (jW _ b))).put (Or.inl js) _;have hN:∀j∈x.p::x.vh.ownBlock.toList,j∈g::x.M\/w.heap.size<=j:=fun j a=>Or.inl (jW _ (m j (by rcases ja.1 a with rfl|e;exact o;exact B j e)))
 have q:x.blocks=x.p::(x.vl.ownBlock.toList++(x.vh.ownBlock.toList++(x.vls.ownBlock.toList++x.vlw.ownBlock.toList++x.lss.flatMap (fun l=>[l.g1,l.g2])++x.prs.flatMap Ah.blocks))):=by simp [WG.blocks]
 have r:x.vh.ownBlock.toList=[g]\/(g≠x.p/\g∉x.vl.ownBlock.toList/\g∉(x.vls.ownBlock.toList++x.vlw.ownBlock.toList++x.lss.flatMap (fun l=>[l.g1,l.g2])++x.prs.flatMap Ah.blocks)):=by
  rcases I with e|e
  .exact Or.inl (by simp [e])
  .have c:g∉x.blocks:=fun O=>by have:=(A g (m g O)).2;omega
   rw [q] at c;refine Or.inr ⟨fun D=>c (by simp [D]),fun D=>c ?_,fun D=>c ?_⟩
   .exact jW _ (jg _ D)
   .exact jW _ (jU _ (jU _ D))
 obtain ⟨Z,dA,G⟩:=QR (q ▸ Y) r
 have P:x.p≠g:=by
  have:=(List.nodup_cons.1 Z).1;exact fun e=>this (by simp [e])
 have Q:∀j∈x.vls.ownBlock.toList,j∉x.p::x.vh.ownBlock.toList:=fun j a=>G j (by simp only [jT];exact Or.inl (Or.inl (Or.inl a)))
 have R:∀j∈x.vlw.ownBlock.toList,j∉x.p::x.vh.ownBlock.toList:=fun j a=>G j (by simp only [jT];exact Or.inl (Or.inl (Or.inr a)))
 have E:∀l∈x.lss,∀j∈[l.g1,l.g2],j∉x.p::x.vh.ownBlock.toList:=fun l F j a=>G j (by simp only [jT];exact Or.inl (Or.inr (jd.2 ⟨l,F,a⟩)))
 have T:∀y∈x.prs,∀j∈y.blocks,j∉x.p::x.vh.ownBlock.toList:=fun y v j a=>G j (by simp only [jT];exact Or.inr (jd.2 ⟨y,v,a⟩))
 have hB:F8 z (g::x.M) (i.setCell ⟨x.p,7,none⟩ (sl g (x.H.length+1) cap)):=Ab.belX X f (fun j a=>(A j (m j (by rcases ja.1 a with rfl|e;exact o;exact B j e))).1) (fun j a=>m j (by rcases ja.1 a with rfl|e;exact o;exact B j e)) (fun j a=>by rcases ja.1 a with rfl|e;exact C;exact Or.inl e);have U:=f.size
 have V:g<(i.setCell ⟨x.p,7,none⟩ (sl g (x.H.length+1) cap)).heap.size:=by
  have:=(World.ownsRow.lt d g rfl).2;simpa [World.setCell] using this
 refine ⟨?_,hB,?_,?_,?_,h6,AY h7 f (fun k b=>dA k (by simp [b])),?_,?_,AY J f (fun k b=>Q k (by simp [b])),AY K f (fun k b=>R k (by simp [b])),⟨by show x.prs.length<=_;omega,jx,by show x.lss.length<=_;omega⟩,fun l F=>?_,fun y v=>⟨((n y v).1.cons C).but f hN (T y v),by have:=(n y v).2.1;omega,(n y v).2.2⟩⟩
 .have hW := (h1.but W (fun e => by
    have := (List.nodup_cons.1 (q ▸ Y)).1
    exact this (jU _ (jg _ e)))).set 7 (sl g (x.H.length + 1) cap)
  exact hW
 .show (WG.blocks _).Nodup;have:(x.p::(x.vl.ownBlock.toList++([g]++(x.vls.ownBlock.toList++x.vlw.ownBlock.toList++x.lss.flatMap (fun l=>[l.g1,l.g2])++x.prs.flatMap Ah.blocks)))).Nodup:=Z;simpa [WG.blocks,sl,Value.ownBlock] using this
 .intro j a
  have u:j=g\/j∈x.blocks:=by
   simp only [WG.blocks,sl,Value.ownBlock,ja,jT,Option.toList_some,List.not_mem_nil,or_false] at a |-;rcases a with h|((((h|h)|h)|h)|h)|h
   .exact Or.inr (Or.inl h)
   .exact Or.inr (Or.inr (Or.inl (Or.inl (Or.inl (Or.inl (Or.inl h))))))
   .exact Or.inl h
   .exact Or.inr (Or.inr (Or.inl (Or.inl (Or.inl (Or.inr h)))))
   .exact Or.inr (Or.inr (Or.inl (Or.inl (Or.inr h))))
   .exact Or.inr (Or.inr (Or.inl (Or.inr h)))
   .exact Or.inr (Or.inr (Or.inr h))
  rcases u with rfl|u
  .exact List.mem_cons_self
  .exact jW _ (m j u)
 .intro j a;rcases ja.1 a with rfl|a
  .exact ⟨N,V⟩
  .exact ⟨(A j a).1,jN (A j a).2 U⟩
 .have := AY d ((Ab.refl [x.p] i).set (p := ⟨x.p, 7, none⟩) js (sl g (x.H.length + 1) cap)) (fun k b O => by
    simp [sl, Value.ownBlock] at b O
    exact P jo)
  simpa using this
 .intro t ht;rcases jT.1 ht with h|h
  .exact h9 t h
  .rw [jP.1 h];exact hS
 .obtain ⟨l1,l2,l3⟩:=L l F;exact ⟨AY l1 f (fun k b=>E l F k (by simp [sl,Value.ownBlock] at b;simp [b])),AY l2 f (fun k b=>E l F k (by simp [sl,Value.ownBlock] at b;simp [b])),l3⟩
def Ot (a:Aw) (p s:Nat) (e:Ending) (w':jj):Prop:=e= .returned (.tuple #[])/\∃x,Ao a s x w'/\x.p=p
theorem J2 (b:Aw) (s:Nat) (x:WG) (S:jt) (w:jj) (h:Ao b s x w) (n:s<=150000) (f:S.size<=1099511627776):
  Calls Tryz.prog 41 #[.pointer (some ⟨x.p,0,none⟩),.string S] w (Ot b x.p (s+1)):=by
 have c:x.vh.ownBlock≠some x.p:=fun e=>by
  have i:=h.2.2.1;have d:x.blocks=x.p::(x.vl.ownBlock.toList++(x.vh.ownBlock.toList++(x.vls.ownBlock.toList++x.vlw.ownBlock.toList++x.lss.flatMap (fun l=>[l.g1,l.g2])++x.prs.flatMap Ah.blocks))):=by simp [WG.blocks]
  have:=(List.nodup_cons.1 (d ▸ i)).1;exact this (jU _ (jg _ (by simp [e])))
 refine (Lq b.heap.size x.p x.H.length x.vh (x.H.map Value.string) S w (h.1.1 7 _ rfl) (h.1.2 7 (by simp [WG.cells])) h.2.2.2.2.2.2.2.1 (by have:=h.2.2.2.2.2.2.2.2.2.2.2.1.2.1;omega) h.2.1.size c).mono ?_;rintro e w' ⟨rfl,g,cap,o,k,rfl,a,m⟩;exact ⟨rfl,_,h.put k a m f,rfl⟩
theorem FI (c:Aw) (s:Nat) (x:WG) (a:Int) (w:jj) (h:Ao c s x w) (g:s<=150000) (d:Aj a):
  Calls Tryz.prog 39 #[.pointer (some ⟨x.p,0,none⟩),.int .i64 a] w fun e w'=>∃t:jt,e= .returned (.string t)/\Aa w w'/\t.size<=1099511627776:=by
 refine (QI c.heap.size x.p x.H.length x.vh x.H a w (h.1.1 7 _ rfl) h.2.2.2.2.2.2.2.1 (by have:=h.2.2.2.2.2.2.2.2.2.2.2.1.2.1;omega) d).mono ?_;rintro e w' ⟨t,rfl,f,b⟩;refine ⟨t,rfl,f,?_⟩;rcases b with rfl|b
 .decide
 .exact h.2.2.2.2.2.2.2.2.1 t b
theorem Ao.cfg {C:Aw} {s:Nat} {x:WG} {w:jj} (h:Ao C s x w) (o:Nat) (u:ju) (n:Ac) (g:x.cells.set o u=WG.cells {x with c:=n}) (F:n.Fit):Ao C s {x with c:=n} (w.setCell ⟨x.p,o,none⟩ u):=by
 obtain ⟨G,H,D,E,q,Q,I,J,K,r,t,v,z,m⟩:=h
 have R:∀j∈x.blocks,j=x.p\/j∉[x.p]:=fun j _=>by
  by_cases e:j=x.p
  .exact Or.inl e
  .exact Or.inr (by simpa using e)
 have L:=(List.nodup_cons.1 D).1;have i:x.p∈x.M:=E x.p (by simp [WG.blocks]);have f:Ab [x.p] w (w.setCell ⟨x.p,o,none⟩ u):=(Ab.refl _ w).set js u;have a:∀j,j∈(x.vl.ownBlock.toList++x.vh.ownBlock.toList++x.vls.ownBlock.toList++x.vlw.ownBlock.toList++x.lss.flatMap (fun l=>[l.g1,l.g2])++x.prs.flatMap Ah.blocks)->j∉[x.p]:=fun j b e=>L (by rw [<-jP.1 e];exact b)
 simp only [jT] at a
 refine ⟨g ▸ G.set o u, Ab.belX H f (by intro j b; rw [jP.1 b]; exact (q _ i).1) (by intro j b; rw [jP.1 b]; exact i) (fun j b => Or.inl b), D, E, fun j b => ⟨(q j b).1, by simpa [World.setCell] using (q j b).2⟩, F, AY I f (fun k d => a k (Or.inl (Or.inl (Or.inl (Or.inl (Or.inl (by simp [d]))))))), AY J f (fun k d => a k (Or.inl (Or.inl (Or.inl (Or.inl (Or.inr (by simp [d]))))))), K,
   AY r f (fun k d => a k (Or.inl (Or.inl (Or.inl (Or.inr (by simp [d])))))), AY t f (fun k d => a k (Or.inl (Or.inl (Or.inr (by simp [d]))))), v, fun l A => ?_, fun y B => ⟨(m y B).1.but f (by intro j b; rw [jP.1 b]; exact Or.inl i) (fun j b => a j (Or.inr (jd.2 ⟨y, B, b⟩))), (m y B).2⟩⟩
 obtain ⟨N,O,P⟩:=z l A;exact ⟨AY N f (fun k d=>a k (Or.inl (Or.inr (jd.2 ⟨l,A,by simp [sl,Value.ownBlock] at d;simp [d]⟩)))),AY O f (fun k d=>a k (Or.inl (Or.inr (jd.2 ⟨l,A,by simp [sl,Value.ownBlock] at d;simp [d]⟩)))),P⟩
theorem Ub (q:Aw) (s:Nat) (x:WG) (k v:Int) (w:jj) (h:Ao q s x w) (m:0<=k) (n:k<5) (a:Aj v):
  Calls Tryz.prog 50 #[.pointer (some ⟨x.p,0,none⟩),.int .i64 k,.int .i64 v] w (Ot q x.p s):=by
 refine (Rz x.p x.cells k v w h.1 (by simp [WG.cells]) m n).mono ?_;rintro e w' ⟨rfl,o,r,rfl⟩;have t:=h.2.2.2.2.2.1;obtain ⟨d,f,g,i,l,b⟩:=t;rcases r with rfl|rfl|rfl|rfl|rfl
 .exact ⟨rfl,_,h.cfg 0 _ {x.c with alg:=v} rfl ⟨a,f,g,i,l,b⟩,rfl⟩
 .exact ⟨rfl,_,h.cfg 1 _ {x.c with slots:=v} rfl ⟨d,a,g,i,l,b⟩,rfl⟩
 .exact ⟨rfl,_,h.cfg 2 _ {x.c with points:=v} rfl ⟨d,f,a,i,l,b⟩,rfl⟩
 .exact ⟨rfl,_,h.cfg 3 _ {x.c with probes:=v} rfl ⟨d,f,g,a,l,b⟩,rfl⟩
 .exact ⟨rfl,_,h.cfg 5 _ {x.c with formats:=v} rfl ⟨d,f,g,i,a,b⟩,rfl⟩
theorem PN {α:Type} (f:α->List Nat) (a:Nat) (y:α):∀(l:List α) (k:Nat) (b:k<l.length),((l.set k y).flatMap f).count a+(f l[k]).count a=(l.flatMap f).count a+(f y).count a:=by
 intro l
 induction l with
 |nil=>intro k b;simp at b
 |cons z l ih=>
  intro k b;cases k with
  |zero=>simp [List.count_append];omega
  |succ k=>
   have:=ih k (by simpa using b);simp [List.count_append] at this |-;omega
theorem FL {α:Type} (f:α->List Nat) (a:Nat):∀(l:List α) (y:α),y∈l->(f y).count a<=(l.flatMap f).count a:=by
 intro l
 induction l with
 |nil=>intro y b;simp at b
 |cons z l ih=>
  intro y b;rcases ja.1 b with rfl|b
  .simp [List.count_append]
  .have:=ih y b;simp [List.count_append] at this |-;omega
theorem MJ {α:Type} (f:α->List Nat) (a:Nat):∀(l:List α) (i k:Nat) (b:i<l.length) (c:k<l.length),i≠k->(f l[i]).count a+(f l[k]).count a<=(l.flatMap f).count a:=by
 intro l
 induction l with
 |nil=>intro i k b c;simp at b
 |cons z l ih=>
  intro i k b c d;cases i with
  |zero=>
   cases k with
   |zero=>exact absurd rfl d
   |succ k=>
    have:=FL f a l (l[k]'(by simpa using c)) (jJ _);simp [List.count_append] at this |-;omega
  |succ i=>
   cases k with
   |zero=>
    have:=FL f a l (l[i]'(by simpa using b)) (jJ _);simp [List.count_append] at this |-;omega
   |succ k=>
    have:=ih i k (by simpa using b) (by simpa using c) jo;simp [List.count_append] at this |-;omega
theorem Ak {a:Nat} {l:jr}:a∈l↔1<=l.count a:=List.count_pos_iff.symm
theorem DK {l:jr} (h:l.Nodup) (a:Nat):l.count a<=1:=List.nodup_iff_count.1 h a
theorem Cm {a:Nat} {l:jr} (h:a∈l) (b:l.count a=0):False:=by
 have:=Ak.1 h;omega
theorem Ah.At.app {base:Nat} {L M:jr} {x:Ah} {w:jj} (h:x.At base M w) (b:∀j∈L,j∈M\/w.heap.size<=j):x.At base (L++M) w:=by
 induction L with
 |nil=>exact h
 |cons a L ih=>exact (ih (fun j c=>b j (jW _ c))).cons (by rcases b a js with h|h;exact Or.inl (jU _ h);exact Or.inr h)
theorem Ah.At.of_eq {base:Nat} {M M':jr} {x:Ah} {w:jj} (h:x.At base M w) (e:M=M'):x.At base M' w:=e ▸ h
theorem WG.count (x:WG) (j:Nat):x.blocks.count j=[x.p].count j+x.vl.ownBlock.toList.count j+x.vh.ownBlock.toList.count j+x.vls.ownBlock.toList.count j+x.vlw.ownBlock.toList.count j+(x.lss.flatMap (fun l=>[l.g1,l.g2])).count j+(x.prs.flatMap Ah.blocks).count j:=by
 have:x.blocks=[x.p]++(x.vl.ownBlock.toList++x.vh.ownBlock.toList++x.vls.ownBlock.toList++x.vlw.ownBlock.toList++x.lss.flatMap (fun l=>[l.g1,l.g2])++x.prs.flatMap Ah.blocks):=rfl;rw [this];simp only [List.count_append];omega
theorem Ao.pr {L:Aw} {s O:Nat} {x:WG} {w w':jj} (h:Ao L s x w) (k:Nat) (hk:k<x.prs.length) (N:jr) (n:Ab N w w') (C:∀j∈N,j∈(x.prs[k]).blocks) (y:Ah) (ha:y.a=(x.prs[k]).a) (P:y.blocks.Nodup)
  (f:∀j∈y.blocks,(j∈(x.prs[k]).blocks\/w.heap.size<=j)/\j<w'.heap.size) (K:jr) (J:∀j∈K,(j∈x.M\/w.heap.size<=j)/\j<w'.heap.size) (hy:y.At L.heap.size (y.blocks++(K++x.M)) w') (d:y.g<=O/\y.even) (hs:s<=O):Ao L O {x with prs:=x.prs.set k y,M:=y.blocks++(K++x.M)} w':=by
 obtain ⟨h1,Q,h3,r,B,h6,h7,h8,h9,R,S,⟨s1,s2,s3⟩,T,t⟩:=h;have U:=DK h3;have D:=WG.count x;have E:∀j,(x.prs[k]).blocks.count j<=(x.prs.flatMap Ah.blocks).count j:=fun j=>FL _ j _ _ (jJ _)
 have m:∀j∈(x.prs[k]).blocks,j∈x.blocks:=fun j b=>by
  have V:=Ak.1 b;have W:=E j;have a3:=D j;exact Ak.2 jo
 have u:∀j∈N,[x.p].count j=0/\x.vl.ownBlock.toList.count j=0/\x.vh.ownBlock.toList.count j=0/\x.vls.ownBlock.toList.count j=0/\x.vlw.ownBlock.toList.count j=0/\(x.lss.flatMap (fun l=>[l.g1,l.g2])).count j=0:=fun j b=>by
  have V:=Ak.1 (C j b);have W:=E j;have a3:=D j;have a4:=U j;refine ⟨?_,?_,?_,?_,?_,?_⟩<;>omega
 have hA:∀j∈y.blocks,j∈x.M\/w.heap.size<=j:=fun j b=>(f j b).1.imp (fun e=>r j (m j e)) id
 have X:∀j∈y.blocks++K,j∈x.M\/w.heap.size<=j:=fun j b=>(jT.1 b).elim (hA j) (fun e=>(J j e).1)
 have Y:∀j∈N,j∈y.blocks++(K++x.M)\/w.heap.size<=j:=fun j b=>Or.inl (jU _ (jU _ (r j (m j (C j b)))))
 have F:((x.prs.set k y).map fun y=>Value.pointer (some ⟨y.a,0,none⟩))=x.prs.map fun y=>Value.pointer (some ⟨y.a,0,none⟩):=by
  apply List.ext_getElem
  .simp
  .intro i i1 i2;simp only [List.getElem_map,List.getElem_set];split
   .rename_i e;subst e;rw [ha]
   .rfl
 have q:=fun a=>PN Ah.blocks a y x.prs k hk
 have v:=WG.count {x with prs:=x.prs.set k y,M:=y.blocks++(K++x.M)};simp only at v
 refine ⟨h1.but n (fun e => Cm js (u _ e).1), Ab.belX Q n (fun j b => (B j (r j (m j (C j b)))).1) (fun j b => r j (m j (C j b))) (fun j b => (jT.1 b).elim (fun e => hA j e) (fun e => (jT.1 e).elim (fun e => (J j e).1) Or.inl)), ?_, ?_, ?_, h6, ?_, AY h8 n (fun g d c => Cm (by simp [d]) (u g c).2.2.1), h9, AY R n (fun g d c => Cm (by simp [d]) (u g c).2.2.2.1),
   AY S n (fun g d c => Cm (by simp [d]) (u g c).2.2.2.2.1), ⟨by simp; omega, by show x.H.length <= _; omega, by show x.lss.length <= _; omega⟩, fun l Z => ?_, fun z hz => ?_⟩
 .refine List.nodup_iff_count.2 fun a=>?_
  rw [v];have V:=q a;have W:=D a;have a3:=U a;have a4:=DK P a;by_cases G:a∈y.blocks
  .rcases (f a G).1 with e|e
   .have a5:=Ak.1 e;omega
   .have a5:x.blocks.count a=0:=jZ fun I=>by
     have:=(B a (r a (jb.1 I))).2;omega
    omega
  .have a5:y.blocks.count a=0:=jZ fun I=>G (jb.1 I)
   omega
 .intro j b;by_cases G:j∈y.blocks
  .exact jg _ G
  .refine jU _ (jU _ (r j (Ak.2 ?_)));have a0:=Ak.1 b;rw [v] at a0;have V:=q j;have W:=D j;have a5:y.blocks.count j=0:=jZ fun I=>G (jb.1 I)
   omega
 .intro j b;rcases jT.1 b with b|b
  .refine ⟨?_,(f j b).2⟩;rcases (f j b).1 with e|e
   .exact (B j (r j (m j e))).1
   .have:=Q.size;omega
  .rcases jT.1 b with b|b
   .refine ⟨?_,(J j b).2⟩;rcases (J j b).1 with e|e
    .exact (B j e).1
    .have:=Q.size;omega
   .exact ⟨(B j b).1,jN (B j b).2 n.size⟩
 .show w'.ownsRow _ _ _ _ (x.prs.set k y).length ((x.prs.set k y).map _);rw [F,List.length_set];exact AY h7 n (fun g d c=>Cm (by simp [d]) (u g c).2.1)
 .obtain ⟨l1,l2,l3⟩:=T l Z;exact ⟨AY l1 n (fun g d c=>Cm (jd.2 ⟨l,Z,by simp [sl,Value.ownBlock] at d;simp [d]⟩) (u g c).2.2.2.2.2),AY l2 n (fun g d c=>Cm (jd.2 ⟨l,Z,by simp [sl,Value.ownBlock] at d;simp [d]⟩) (u g c).2.2.2.2.2),l3⟩
 .obtain ⟨i,hi,rfl⟩:=List.mem_iff_getElem.1 hz;have o:i<x.prs.length:=by simpa using hi
  by_cases A:k=i
  .subst A;simp only [List.getElem_set_self];exact ⟨hy,d⟩
  .simp only [List.getElem_set_ne A];refine ⟨(((t _ (jJ o)).1.app X).of_eq (List.append_assoc _ _ _)).but n Y (fun j b aa=>?_),by have:=(t _ (jJ o)).2.1;omega,(t _ (jJ o)).2.2⟩;have b1:=MJ Ah.blocks j x.prs i k o hk (Ne.symm A);have b2:=Ak.1 b;have b3:=Ak.1 (C j aa);have b4:=D j;have b5:=U j;omega
end Go.Proofs.YtpapdkhjdelfcaaGreat
