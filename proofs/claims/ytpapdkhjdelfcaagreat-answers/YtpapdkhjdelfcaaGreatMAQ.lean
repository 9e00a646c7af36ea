import Derived.Test.YtpapdkhjdelfcaaGreatMAP
namespace Go.Proofs.YtpapdkhjdelfcaaGreat
open Go.RowKit
set_option maxRecDepth 100000
set_option maxHeartbeats 4000000
abbrev TP:=Nat×List UInt8
def Dw (T:List TP):List Value:=T.flatMap fun p=>[.int .i64 (p.1:Int),.string (Ai p.2)]
theorem PQ (l:List TP) (j:Nat) (h:j<l.length):(Dw l)[j * 2]?=some (.int .i64 (l[j].1:Int))/\(Dw l)[j * 2+1]?=some (.string (Ai l[j].2)):=by
 induction l generalizing j with
 |nil=>simp at h
 |cons b l ih=>
  cases j with
  |zero=>simp [Dw]
  |succ j=>
   have:=ih j (by simpa using h);have e:Dw (b::l)= .int .i64 (b.1:Int):: .string (Ai b.2)::Dw l:=by simp [Dw]
   rw [e,show (j+1) * 2=j * 2+1+1 by omega];simpa using this
def AN (w:jj) (v:ju) (T:List TP):Prop:=w.ownsRow 0 228 2 v T.length (Dw T)
theorem AN.open {w:jj} {v:ju} {T:List TP} (h:AN w v T):∃d cap,v= .slice d T.length cap/\∀j (c:j<T.length),∃g,d=some ⟨g,0,none⟩/\w.cell? ⟨g,j * 2,none⟩=some (.int .i64 (T[j].1:Int))/\w.cell? ⟨g,j * 2+1,none⟩=some (.string (Ai T[j].2)):=by
 rcases h.2 with ⟨b,f⟩|⟨g,cap,i,b,_⟩
 .exact ⟨none,0,by rw [b,f],fun j c=>by omega⟩
 .refine ⟨_,_,b,fun j c=>⟨g,rfl,?_,?_⟩⟩
  .have:=h.cells (g:=g) (by rw [b];rfl) (j * 2) _ (PQ T j c).1;have a:(⟨g,0,none⟩:Addr).add (j * 2)=⟨g,j * 2,none⟩:=by unfold Addr.add;split <;>simp_all
   rwa [a] at this
  .have:=h.cells (g:=g) (by rw [b];rfl) (j * 2+1) _ (PQ T j c).2;have a:(⟨g,0,none⟩:Addr).add (j * 2+1)=⟨g,j * 2+1,none⟩:=by unfold Addr.add;split <;>simp_all
   rwa [a] at this
theorem AN.later {w w':jj} {v:ju} {T:List TP} (h:AN w v T) (k:Aa w w'):AN w' v T:=CV h k
def GB:List TP->Nat->Nat
 |[],k=>k
 |x::T,k=>if x.1=k then GB T (k+1) else k
def Dq (T:List TP):Nat:=GB T 0
theorem VA:∀(j:Nat) (T:List TP) (k:Nat) (_:j<=T.length),(∀i (h:i<T.length),i<j->T[i].1=k+i)->(∀(h:j<T.length),T[j].1≠k+j)->GB T k=k+j:=by
 intro j
 induction j with
 |zero=>
  intro T k _ _ b
  match T with
  |[]=>rfl
  |x::T=>
   have c:x.1≠k:=b js;rw [GB,if_neg c];rfl
 |succ j ih=>
  intro T k d a b
  match T with
  |[]=>simp at d
  |x::T=>
   have c:x.1=k:=a 0 js jo
   rw [GB, if_pos c, ih T (k + 1) (by simpa using d) (fun i h g => by
     have := a (i + 1) (by simpa using h) jo
     have e : (x :: T)[i + 1] = T[i] := rfl
     rw [e] at this
     omega) (fun h e => b (by simpa using h) (by
       have f : (x :: T)[j + 1]'(by simpa using h) = T[j] := rfl
       rw [f]; omega))]
   omega
theorem P9 {k:Nat} {T:List TP} (c:k<=T.length) (a:∀i (h:i<T.length),i<k->T[i].1=i) (b:∀(h:k<T.length),T[k].1≠k):Dq T=k:=by
 have:=VA k T 0 c (fun i h d=>by rw [a i h d];omega) (fun h=>by have:=b h;omega);rw [Dq,this];omega
theorem Sx (q:Nat) (p:ju) (T:List TP) (w:jj) (u:w.cell? ⟨q,13,none⟩=some p) (s:AN w p T) (A:T.length<=1048576):
  Calls Tryz.prog 173 #[.pointer (some ⟨q,10,none⟩)] w (D9 w (Dq T)):=by
 obtain ⟨B,cap,rfl,f⟩:=s.open;clear s;go_enter Tryz.func173,Tryz.ntmps173;go_wp2;go_loopg [3] T.length (fun r n wr=>w=wr/\∃k:Nat,r=T.length - k/\n= .int .i64 k/\k<=T.length/\∀i (h:i<T.length),i<k->T[i].1=i)
 case atStart=>exact ⟨rfl,0,jo,rfl,jo,fun i h v=>by omega⟩
 case round=>
  obtain ⟨rfl,k,C,rfl,t,a⟩:=hrel;have b:=jp a;clear a;by_cases c:k<T.length
  .obtain ⟨g,rfl,D,y⟩:=f k c
   have l:Hid (T[k].1=k->∀i (h:i<T.length),i<k+1->T[i].1=i):=fun m i h v=>by
    by_cases o:i=k
    .subst o;exact m
    .exact b.out i h jo
   have d:Hid (T[k].1≠k->Dq T=k):=fun m=>P9 t b.out (fun _=>m)
   clear f y b;generalize T[k].1=x at *;by_cases hx:x=k
   .subst hx;replace l:=jp (l.out rfl);go_wp2;go_roundg (T.length - (x+1))
    case measure=>omega
    case rel=>exact ⟨rfl,x+1,rfl,by go_num,jo,l.out⟩
   .have z:((x:Int)==(k:Int))=false:=by rw [jI];omega
    replace d:=jp (d.out hx);go_wp2;go_ret;exact ⟨BO (by rw [d.out]),jq⟩
  .have d:Hid (Dq T=k):=P9 t b.out (fun h=>absurd h c);clear f b;go_wp2;go_ret;exact ⟨BO (by rw [d.out]),jq⟩
theorem O0 (q a:Nat) (b:ju) (T:List TP) (w:jj) (d:w.cell? ⟨q,12,none⟩=some (.int .i64 (a:Int))) (f:w.cell? ⟨q,13,none⟩=some b) (c:AN w b T):
  Calls Tryz.prog 197 #[.pointer (some ⟨q,10,none⟩)] w (GX w ((T.length:Int)==(a:Int))):=by
 obtain ⟨i,cap,rfl,g⟩:=c.open;clear c g;go_enter Tryz.func197,Tryz.ntmps197;go_wp2_with fail;go_quiet (fail);go_wp2;go_ret;exact ⟨rfl,jq⟩
def Cg (T:List TP):List UInt8:=T.flatMap fun p=>p.2
theorem OP {T:List TP} (h:∀p∈T,p.2.length<=65536):(Cg T).length<=65536 * T.length:=by
 induction T with
 |nil=>simp [Cg]
 |cons b T ih=>
  have c:=h b js;have a:=ih (fun x hx=>h x (by simp [hx]));simp only [Cg,List.flatMap_cons,jO,List.length_cons] at a |-;omega
theorem SI (d:Nat) (C:ju) (T:List TP) (w:jj) (L:w.cell? ⟨d,3,none⟩=some C) (D:AN w C T) (Z:T.length<=65536) (E:∀p∈T,p.2.length<=65536):
  Calls Tryz.prog 208 #[.pointer (some ⟨d,0,none⟩)] w (DE w (Cg T)):=by
 obtain ⟨ao,cap,rfl,v⟩:=D.open;have M:d<w.heap.size:=jF L;have N:d≠w.heap.size:=jo
 have l:=Bb.new w 166;have m:=jp l
 have c:Hid (∀k,(Cg (T.take k)).length<=4294967296):=fun k=>by
  have h1:=OP (T:=T.take k) (fun p O=>E p (List.mem_of_mem_take O));have h2:=List.length_take_le' k T;have h3:65536 * (T.take k).length<=65536 * 65536:=Nat.mul_le_mul (jH _) jo;omega
 clear D l;go_enter Tryz.func208,Tryz.ntmps208;go_wp2;go_loopg [11] T.length (fun r n wr=>∃k:Nat,r=T.length - k/\k<=T.length/\n= .int .i64 k/\Bb (fun _=>none) w w.heap.size (Az (Cg (T.take k))) wr)
 case atStart=>exact ⟨0,jo,jo,rfl,by simpa [Cg,Az] using m.out⟩
 case round=>
  obtain ⟨k,hr,hk,rfl,F⟩:=hrel;have o:=jp F;clear F m;by_cases i:k<T.length
  .obtain ⟨g,rfl,G,H⟩:=v k i;have a:=o.out.1;have P:=a.cell G;have Q:=a.cell H;have R:(Ai T[k].2).size<=65536:=by have:=E _ (jJ i);simpa [Ai,ByteArray.size] using this
   obtain ⟨q,f⟩:∃q,q=Az (Cg (T.take k)):=⟨_,rfl⟩
   have S:Hid (Az (Cg (T.take (k+1)))=q++Az (Ai T[k].2).data.toList):=by
    show _=_;rw [f,Fs,jQ i,Cg,Cg,List.flatMap_append,WH];simp
   have U:q.length<=34359738368:=by
    have:=c.out k;rw [f,Bk];omega
   rw [<-f] at o;clear f;generalize T[k].1=V at *;generalize Ai T[k].2=I at *;obtain ⟨K1,x,s,t⟩:=o.out.box (.cells #[.int .i64 (V:Int),.string I] 228) (fun W e=>by injection e with _ e;revert e;decide);have J:=jp (Gh w w.heap.size q I _ t jo);have y:=jp s;clear v G H a c t x s o;go_wp2_with fail;refine J.out.mono ?_;rintro e X ⟨rfl,b⟩;have z:=jp (b.drop (K':=fun _=>none) y.out);clear b J;go_wp2;go_roundg (T.length - (k+1))
   case measure=>omega
   case rel=>
    refine ⟨k+1,rfl,jo,by go_num,?_⟩;rw [S.out];exact z.out
  .have Y:Hid (T.take k=T):=jR jo;have A:=c.out k;have u:=Ij w w.heap.size _ _ o.out (by rw [Bk];omega)
   have e:AK (Az (Cg (T.take k)))=Cg T:=by
    have:=J4 (Cg (T.take k)) [];rw [List.append_nil] at this;rw [this,Y.out];simp [AK]
   unfold OO at u;rw [e] at u;have K:=jp u;clear v c u e A;generalize Cg T=TB at *;go_wp2_with fail;refine K.out.mono ?_;rintro e X ⟨rfl,b⟩;have B:=jp b.1;clear b K;go_wp2;go_ret;exact ⟨rfl,B.out⟩
theorem OY {P:Program} (w:jj) (base:Nat) (t A e:TypeId) (i:TypeInfo) (z:ju) (d o:Nat) (H:P.underlying t=some (.slice e)) (I:P.info? e=some i) (L:i.zero=some z)
  (q:i.size=d) (B:i.bytes=o) (M:z.cells.size=d) (N:0<d)
  (v:ju) (n:Nat) (C:List Value) (p:w.ownsRow base e d v n C)
  (a:Addr) (m c:Nat) (b:List Value) (D:b.length=m * d) (f:∀j u,b[j]?=some u->w.cell? (a.add j)=some u) (R:∀u∈b,u.oneCell'=true)
  (E:n+m<=maxLen) (k:(n+m) * o<=140737488355328) (s:base<=w.heap.size):
  ∃y w',(Builtin.append_ #[t,t] A #[v,.slice (some a) m c]).run P w= .ok y w'/\w'.ownsRow base e d y (n+m) (C++b)/\w.grownBy w' v.ownBlock/\(y.ownBlock=v.ownBlock\/y.ownBlock=some w.heap.size):=by
 obtain ⟨y,w',J,S,T,U⟩:=run_append_own (P:=P) w base t A e i z d o H I L q B M N v n C p a m c b D f R E k s;refine ⟨y,w',J,S,T,?_⟩;subst q;subst B;have K:n+m<=9223372036854775807:=by simp only [maxLen] at E;omega
 rcases p.2 with ⟨rfl,rfl⟩|⟨g,cap,F,rfl,V,W,X,Y,O,Q⟩
 .by_cases Z:m=0
  .have:=U.2 ⟨rfl,Z⟩;subst this;exact Or.inl rfl
  .have l:=run_append_nil (P:=P) w t A e i z H I L a m c b D f jo jo (by have hb:=k;simp only [Nat.zero_add] at hb;omega);rw [J] at l;injection l with hv hw
   rw [hv];exact Or.inr rfl
 .by_cases r:n+m<=cap
  .have G:n * i.size+b.length<=F.size:=by rw [D,O,<-Nat.add_mul];exact Nat.mul_le_mul_right _ r
   have l:=run_append_room (P:=P) w t A e i H I g n cap F W a m c b D f R r G;rw [J] at l;injection l with hv hw
   rw [hv];exact Or.inl rfl
  .have x:∀j u,C[j]?=some u->w.cell? ((⟨g,0,none⟩:Addr).add j)=some u:=p.cells (g:=g) rfl;have l:=run_append_grow (P:=P) w t A e i z H I L ⟨g,0,none⟩ n cap C p.1 x a m c b D f jo jo (growslice_fits jo k);rw [J] at l;injection l with hv hw
   rw [hv];exact Or.inr rfl
theorem Y0 {P:Program} (w:jj) {r:Array Oper} {rest:List Oper} {o:Oper} {a:Act} {Q:Exit->Act->World->Prop} (A:o.guard=none) (s x:Operand) (t:TypeId)
  (H:o.op= .call {callee:= .builtin .append,args:=#[s,x],argTypes:=#[t,t]})
  (base:Nat) (e:TypeId) (i:TypeInfo) (z:ju) (b f:Nat) (I:P.underlying t=some (.slice e)) (J:P.info? e=some i) (K:i.zero=some z)
  (k:i.size=b) (B:i.bytes=f) (C:z.cells.size=b) (D:0<b)
  (v:ju) (n:Nat) (E:List Value) (L:a.eval s=v) (y:w.ownsRow base e b v n E)
  (F:Addr) (m c:Nat) (d:List Value) (hx:a.eval x= .slice (some F) m c) (M:d.length=m * b) (l:∀j u,d[j]?=some u->w.cell? (F.add j)=some u) (N:∀u∈d,u.oneCell'=true)
  (G:n+m<=maxLen) (g:(n+m) * f<=140737488355328) (p:base<=w.heap.size)
  (h:∀q w',w'.ownsRow base e b q (n+m) (E++d)->w.grownBy w' v.ownBlock->(q.ownBlock=v.ownBlock\/q.ownBlock=some w.heap.size)->wpList P r Q rest (a.put o.dst q) w'):wpList P r Q (o::rest) a w:=
 wpList_plain A fun _ O=>by
  obtain ⟨q,w',R,S,T,U⟩:=OY (P:=P) w base t o.type e i z b f I J K k B C D v n E y F m c d M l N G g p;unfold Oper.wp execOp;simp only [H,resolve,invoke,builtin,Sem.run_bind,Sem.run_pure,Result.andThen_ok,List.map_toArray,List.map_cons,List.map_nil,L,hx,R];exact O _ _ (h q w' S T U)
theorem Tryz.infoTP:(Tryz.prog.info? 228).map (fun i=>(i.zero,i.size,i.bytes))=some (some (.agg #[.int .i64 0,.string ByteArray.empty]),2,24):=by kernel_rfl
def gl (v:ju):List Nat:=v.ownBlock.toList
theorem UV (L:List TP) (b:TP):Dw (L++[b])=Dw L++[.int .i64 (b.1:Int),.string (Ai b.2)]:=by simp [Dw]
theorem Xg (L:List TP) (i:Nat) (p:TP):Dw (L.set i p)=((Dw L).set (i * 2) (.int .i64 (p.1:Int))).set (i * 2+1) (.string (Ai p.2)):=by
 induction L generalizing i with
 |nil=>simp [Dw]
 |cons b L ih=>
  have e:∀(b:TP) (L:List TP),Dw (b::L)= .int .i64 (b.1:Int):: .string (Ai b.2)::Dw L:=fun b L=>by simp [Dw]
  cases i with
  |zero=>simp [e]
  |succ i=>
   rw [List.set_cons_succ,e,e,ih,show (i+1) * 2=i * 2+1+1 by omega];simp
theorem AN.set {w:jj} {g cap:Nat} {n:Nat} {L:List TP} (h:AN w (.slice (some ⟨g,0,none⟩) n cap) L) (i:Nat) (p:TP):AN ((w.setCell ⟨g,i * 2,none⟩ (.int .i64 (p.1:Int))).setCell ⟨g,i * 2+1,none⟩ (.string (Ai p.2))) (.slice (some ⟨g,0,none⟩) n cap) (L.set i p):=by
 unfold AN at h |-
 have c:n=L.length:=by
  rcases h.2 with ⟨a,_⟩|⟨k,b,d,a,_⟩
  .cases a
  .simp only [Value.slice.injEq] at a;exact a.2.1
 subst c;have a:=(World.ownsRow.stored h (i * 2) (.int .i64 (p.1:Int))).1;have f:=(World.ownsRow.stored a (i * 2+1) (.string (Ai p.2))).1;rw [Xg,List.length_set];exact f
theorem AN.free {w:jj} {g n cap:Nat} {L:List TP} (h:AN w (.slice (some ⟨g,0,none⟩) n cap) L) (j:Nat):w.frozen? ⟨g,j,none⟩=false:=by
 rcases h.2 with ⟨a,_⟩|⟨c,b,d,a,_,f,_⟩
 .cases a
 .simp only [Value.slice.injEq,Option.some.injEq,Addr.mk.injEq] at a;have i:g=c:=a.1.1;subst i;simp [World.frozen?,f]
theorem AN.nbox {w:jj} {g n cap q:Nat} {L:List TP} {tq:TypeId} {f:Array Value} (h:AN w (.slice (some ⟨g,0,none⟩) n cap) L) (a:Ae q tq f w) (c:tq≠228):g≠q:=fun e=>by
 rcases h.2 with ⟨b,_⟩|⟨i,d,k,b,_,l,_⟩
 .cases b
 .simp only [Value.slice.injEq,Option.some.injEq,Addr.mk.injEq] at b;have m:g=i:=b.1.1;subst m;subst e;rw [Ae,l] at a;injection a with a
  injection a with _ a
  exact c a.symm
theorem Pp {q:Nat} {v:ju} {w X c:jj} (a:Aa w X) (b:X.grownBy c v.ownBlock):Ab (q::gl v) w c:=
 Ab.mk (b.os.trans a.below.os) (b.tape.trans a.below.tape) (b.output.trans a.below.output) (jX a.size b.size) (fun k d f=>(b.block k (jN d a.size) (fun e=>f (jW _ (by unfold gl;rw [<-e];simp)))).trans (a.block k d))
def Jh (T:List TP) (a:Nat) (L:List TP):Prop:=L.length=T.length+1/\(∀j,j<a->L[j]?=T[j]?)/\(∀j,a<=j->j<T.length->L[j+1]?=T[j]?)
def Mh (q:Nat) (tq:TypeId) (c:Array Value) (T:List TP) (a:Nat) (b:ju) (w:jj) (e:Ending) (w':jj):Prop:=
 ∃g cap L,e= .returned (.tuple #[])/\Ae q tq (c.setIfInBounds 13 (.slice (some ⟨g,0,none⟩) (T.length+1) cap)) w'/\AN w' (.slice (some ⟨g,0,none⟩) (T.length+1) cap) L/\Jh T a L/\Ab (q::gl b) w w'/\(some g=b.ownBlock\/w.heap.size<=g)
theorem MI (q:Nat) (tq:TypeId) (z:Array Value) (T:List TP) (b:Nat) (vT:ju) (w:jj) (l:Ae q tq z w) (p:z[13]?=some vT) (G:AN w vT T) (hl:T.length<=65536) (hp:b<=T.length) (R:tq≠228):
  Calls Tryz.prog 207 #[.pointer (some ⟨q,10,none⟩),.int .i64 (b:Int)] w (Mh q tq z T b vT w):=by
 obtain ⟨i0,hi,al,am,an⟩:=info_parts Tryz.infoTP;have ap:=l.cell 13 p;have aq:=l.free 13;have ar:=l.lt;obtain ⟨S,cap,rfl⟩:=B8 G;have U:=jp l;have D:=jp G
 have V:Hid (Value.ownBlock (.slice S T.length cap)≠some q):=fun e=>by
  rcases G.2 with ⟨P,_⟩|⟨g,s,au,P,_,g2,_⟩
  .rw [P] at e;cases e
  .rw [P] at e;have hg:g=q:=by simpa [Value.ownBlock] using e
   subst hg;rw [Ae,g2] at l;injection l with l
   injection l with _ l
   exact R l.symm
 clear l G;go_enter Tryz.func207,Tryz.ntmps207;go_wp2_with (first|(at_builtin;refine Y0 _ rfl _ _ 204 rfl 0 228 i0 (.agg #[.int .i64 0,.string ByteArray.empty]) 2 24 Tryz.underlying204 hi al am an rfl ji _ T.length (Dw T) rfl ?p1a ⟨w.heap.size,0,none⟩ 1 1 [.int .i64 0,.string ⟨#[]⟩] rfl rfl ?da1 ?da2 ?da3 ?da4 ?da5 ?_))
 case p1a=>exact World.ownsRow.alloc D.out _
 try (case da1=>exact C8 _ _ _ _ _ js)
 case da2=>first|exact ⟨rfl,rfl⟩|exact Df rfl rfl|(intro u hu;simp at hu;rcases hu with rfl|rfl <;>rfl)
 case da3=>unfold maxLen;omega
 case da4=>omega
 case da5=>omega
 intro v5 w5 m i E
 have H:AN w5 v5 (T++[(0,[])]):=by
  unfold AN;rw [UV,jO];exact m
 obtain ⟨g,c,rfl⟩:∃g c,v5= .slice (some ⟨g,0,none⟩) (T.length+1) c:=by
  rcases m.2 with ⟨P,g2⟩|⟨g,s,au,P,_⟩
  .omega
  .exact ⟨g,s,P⟩
 have X:some g=(Value.slice S T.length cap).ownBlock\/w.heap.size<=g:=by
  rcases E with h|h
  .exact Or.inl (by rw [<-h];rfl)
  .right;have:g=w.heap.size+1:=by simpa [Value.ownBlock] using h
   omega
 have hX:Aa w (w.alloc (.cells #[.int .i64 0,.string ⟨#[]⟩] 228)):=(jD w).step_alloc _;have Y:Ab (q::gl (.slice S T.length cap)) w w5:=Pp hX i;have t:Ae q tq z w5:=U.out.kept ((i.block q jx (fun e=>V.out e.symm)).trans (hX.block q ar));have A:g≠q:=H.nbox t R;obtain ⟨Q,v⟩:∃Q,Q=w5.setCell ⟨q,13,none⟩ (.slice (some ⟨g,0,none⟩) (T.length+1) c):=⟨_,rfl⟩;have B:Hid (Ae q tq (z.setIfInBounds 13 (.slice (some ⟨g,0,none⟩) (T.length+1) c)) Q):=by show Ae _ _ _ Q;rw [v];exact t.set 13 _ rfl
 have Z:Hid (AN Q (.slice (some ⟨g,0,none⟩) (T.length+1) c) (T++[(0,[])])):=by
  show AN _ _ _;rw [v];exact ownsRow_setCell_other H (fun e=>A (by simpa [Value.ownBlock] using e)) _
 have I:Hid (Ab (q::gl (.slice S T.length cap)) w Q):=by show Ab _ _ _;rw [v];exact Y.set js _
 have x:(z.setIfInBounds 13 (.slice (some ⟨g,0,none⟩) (T.length+1) c))[13]?=some (.slice (some ⟨g,0,none⟩) (T.length+1) c):=by
  have aa:13<z.size:=by
   rcases Nat.lt_or_ge 13 z.size with h|h
   .exact h
   .rw [Array.getElem?_eq_none h] at p;cases p
  simp [aa]
 have av:=t.cell 13 p;have aw:=t.free 13;have ax:=B.out.cell 13 x;have ab:=jp X;have F:=jp x;clear Y t H hX m i E X ap aq U D V p x;obtain ⟨J,y⟩:∃J,J=z.setIfInBounds 13 (.slice (some ⟨g,0,none⟩) (T.length+1) c):=⟨_,rfl⟩;obtain ⟨GL,K⟩:∃GL,GL=gl (.slice S T.length cap):=⟨_,rfl⟩;rw [<-y] at B F;rw [<-K] at I;have ay:=jp y;have ac:=jp K;clear y K;go_wp2_with fail;rw [<-v];clear av aw;clear v;go_wp2;go_loopg [4] (T.length - b) (fun r n wr=>∃(k:Nat) (L:List TP),r=k - b/\b<=k/\k<=T.length/\n= .int .i64 (k:Int)/\Ae q tq J wr/\AN wr (.slice (some ⟨g,0,none⟩) (T.length+1) c) L/\Ab (q::GL) w wr/\L.length=T.length+1/\(∀j,j<=k->L[j]?=(T++[((0:Nat),([]:jy))])[j]?)/\(∀j,k<=j->j<T.length->L[j+1]?=T[j]?))
 case atStart=>exact ⟨T.length,_,rfl,hp,jH _,rfl,B.out,Z.out,I.out,js,fun j _=>rfl,fun j h1 h2=>by omega⟩
 case round=>
  obtain ⟨k,L,hr,a0,a1,rfl,l,G,hB,ad,ae,af⟩:=hrel;have u13:=l.cell 13 F.out;have U:=jp l;have D:=jp G;have HB:=jp hB;have M:=jp ad;have C:=jp ae;have N:=jp af;clear ax B Z I l G hB ad ae af;by_cases aa:b<k
  .obtain ⟨d,rfl⟩:∃d,k=d+1:=⟨k - 1,jo⟩;obtain ⟨a2,s,hv,hc⟩:=D.out.open;simp only [Value.slice.injEq] at hv;obtain ⟨rfl, -,rfl⟩:=hv;have f:d<L.length:=by have:=M.out;omega
   have ag:d+1<L.length:=by have:=M.out;omega
   obtain ⟨g',O,e0,e1⟩:=hc d f;cases O;obtain ⟨g',O,d0,d1⟩:=hc (d+1) ag;cases O;have a3:=D.out.free ((d+1) * 2);have a4:=D.out.free ((d+1) * 2+1);have HN:Hid (AN _ _ _):=D.out.set (d+1) (L[d]'f)
   have ah:Hid (∀j,j<=d->(L.set (d+1) (L[d]'f))[j]?=(T++[((0:Nat),([]:jy))])[j]?):=fun j hj=>by
    rw [List.getElem?_set_ne jo];exact C.out j jo
   have ai:Hid (∀j,d<=j->j<T.length->(L.set (d+1) (L[d]'f))[j+1]?=T[j]?):=fun j h1 h2=>by
    by_cases hj:j=d
    .subst hj;rw [List.getElem?_set_self (by have:=M.out;omega),<-jG (by have:=M.out;omega),C.out j jo,List.getElem?_append_left h2]
    .rw [List.getElem?_set_ne jo];exact N.out j jo h2
   have aj:Hid ((L.set (d+1) (L[d]'f)).length=T.length+1):=by show _=_;rw [List.length_set];exact M.out
   generalize L.set (d+1) (L[d]'f)=L' at *;generalize (L[d]'f).1=nk at *;generalize (L[d]'f).2=tk at *;have a5:g≠q:=A;have a6:d+1<T.length+1:=jo
   have a7:d<T.length+1:=jo
   have a8:IntKind.i64.wrap (d:Int)=(d:Int):=by rw [IntKind.wrap_i64];omega
   clear hc M C N;go_wp2_with fail;go_region
   all_goals
    go_wp2;go_roundg (d - b)
    case measure=>omega
    case rel=>
     have ak:∀(W:jj) (o:Nat) (u:ju),Ab (q::GL) w W->Ab (q::GL) w (W.setCell ⟨g,o,none⟩ u):=fun W o u h=>by
      rcases ab.out with e|e
      .exact h.set (by rw [ac.out];unfold gl;rw [<-e];simp) u
      .exact h.setN e u
     exact ⟨d,L',rfl,jo,jo,by go_num,(U.out.setO (a:=⟨g,(d+1) * 2,none⟩) A _).setO (a:=⟨g,(d+1) * 2+1,none⟩) A _,HN.out,(ak _ _ _ (ak _ _ _ HB.out)).drew,aj.out,ah.out,ai.out⟩
  .obtain rfl:k=b:=jo
   have az:Hid (Jh T k L):=⟨M.out,fun j hj=>by rw [C.out j jo,List.getElem?_append_left jo],N.out⟩;go_wp2;go_end0;exact ⟨g,c,L,rfl,by rw [<-ay.out];exact U.out,D.out,az.out,by rw [<-ac.out];exact HB.out,ab.out⟩
end Go.Proofs.YtpapdkhjdelfcaaGreat
