import Derived.Test.YtpapdkhjdelfcaaGreatMBO
namespace Go.Proofs.YtpapdkhjdelfcaaGreat
open Go.RowKit
set_option maxRecDepth 100000
set_option maxHeartbeats 4000000
def Cf (B:List BK) (a:Int) (S:jt) (c:Int) (k:Nat) (b:Bool):List BK×Int:=
 if a=4/\(S.size=0\/8<S.size) then (B,2)
 else if a≠5/\(c<0\/6<c) then (B,5)
 else if a=4/\b=true then (B,3)
 else if a=4/\B.length=8 then (B,6)
 else if a≠4/\b=false then (B,4)
 else (B.take k++(if a≠5 then [(S,c)] else [])++B.drop (if a≠4 then k+1 else k),0)
def Fk (w:jj) (B:List BK) (b:Int) (S:jt) (d:Int) (e:Ending) (w':jj):Prop:=∃(v:ju) (k:Nat) (a:Bool) (c:Int),e= .returned (.tuple #[v,.int .i64 c])/\Aa w w'/\Ez B S k a/\Am w' v (Cf B b S d k a).1/\c=(Cf B b S d k a).2/\(c=0->∀g,v.ownBlock=some g->w.heap.size<=g)
theorem Fk.same {w w':jj} {B:List BK} {c:Int} {S:jt} {d:Int} {v:ju} {k:Nat} {a:Bool} {b:Int} (g:Aa w w') (hF:Ez B S k a) (i:Am w' v B) (f:Cf B c S d k a=(B,b)) (l:b≠0:=by decide):Fk w B c S d (.returned (.tuple #[v,.int .i64 b])) w':=⟨v,k,a,b,rfl,g,hF,by rw [f];exact i,by rw [f],fun e=>absurd e l⟩
theorem Yk (B:List BK) (vB:ju) (r A c C:Int) (S:jt) (w:jj) (Z:Am w vB B) (hB:B.length<=8) (aa:r=4\/r=5\/r=6) (hS:S.size<=maxLen):
  Calls Tryz.prog 62 #[vB,.agg #[.int .i64 r,.int .i64 A,.int .i64 c,.int .i64 C,.string S]] w (Fk w B r S c):=by
 obtain ⟨i0,hi,H,I,J⟩:=info_parts Tryz.infoBKS;unfold maxLen at hS
 obtain ⟨v,l,ag,ah⟩:∃ao cap,vB= .slice ao B.length cap/\B.length<=cap:=by
  rcases Z.form with ⟨rfl,rfl⟩|⟨g,cap,rfl,hc,_⟩
  .exact ⟨_,_,rfl,js⟩
  .exact ⟨_,_,rfl,hc⟩
 subst ag;go_enter Tryz.func62,Tryz.ntmps62;go_wp2_with fail;refine (XI B _ S _ (Z.later jq) hB).mono ?_;rintro e s ⟨k,t,rfl,U,hF⟩;have ab:k<=B.length:=hF.1;have K:Hid (Ez B S k t):=hF;clear hF;have n:Aa w s:=jq
 have V:s.cell? ⟨w.heap.size,0,none⟩=some (.int .i64 r):=U.cell js;have ai:s.cell? ⟨w.heap.size,2,none⟩=some (.int .i64 c):=U.cell js;have aj:s.cell? ⟨w.heap.size,4,none⟩=some (.string S):=U.cell js;have an:w.heap.size<s.heap.size:=jF V;clear U;generalize w.heap.size=px at *;go_upto_region 2 with fail
 go_cut [8] (fun v8 wc=>s=wc/\∃L:Bool,v8= .bool L/\(L=true↔(c<0\/6<c)))
 case first=>
  by_cases h1:c<0
  .go_wp2;go_meet
   case rel=>exact ⟨rfl,_,rfl,⟨fun _=>Or.inl h1,fun _=>rfl⟩⟩
  .by_cases h2:6<c
   .go_wp2;go_meet
    case rel=>exact ⟨rfl,_,rfl,⟨fun _=>Or.inr h2,fun _=>rfl⟩⟩
   .go_wp2;go_meet
    case rel=>exact ⟨rfl,_,rfl,⟨fun h=>(by cases h),fun h=>by exfalso;omega⟩⟩
 case rest=>
  obtain ⟨rfl,L,rfl,X⟩:=hcut;have F:Hid (L=true↔(c<0\/6<c)):=X;clear X;have ak:=Z.later n;have al:=fun M=>TV M v B.length l k jo
  have ad:=fun M=>LW M v B.length l k ab
  go_wp2_with (first|(at_builtin;refine Fn _ rfl _ _ 45 rfl s.heap.size 57 i0 (.agg #[.string ByteArray.empty,.int .i64 0]) 2 24 Tryz.underlying45 hi H I J rfl ji _ 0 [] rfl ?o1 _ k (AC (B.take k)) rfl ?o2 ?c1 ?c2 ?c3 ?c4 ?c5 ?_))
  case o1=>exact World.ownsRow_nil _ _ _ _
  case o2=>exact RX ak ab
  case c1=>rw [Jn];simp;omega
  case c2=>exact JR _
  case c3=>unfold maxLen;omega
  case c4=>omega
  case c5=>exact jH _
  intro v2 w2 N G;have m:Aa s w2:=(jD _).grown G (fun g x=>by cases x);have ap:=m.cell V;have aq:=m.cell ai;have ar:=m.cell aj;have f:=n.trans m;have y:=Z.later f;clear G al;have d:w2.ownsRow s.heap.size 57 2 v2 k (AC (B.take k)):=by simpa using N
  clear N;rcases aa with rfl|rfl|rfl
  .cases O:S.toList.isEmpty
   rotate_left
   .have am:S.size=0:=by
     rw [ByteArray.toList_eq] at O;have:S.data.toList=[]:=by simpa using O
     simpa using congrArg List.length this
    go_wp2
    go_ret2
    exact Fk.same f K.out y (by simp [Cf,am])
   have W:¬S.size=0:=fun h=>by
    rw [ByteArray.toList_eq] at O;have hl:S.data.toList.length=0:=by simpa using h
    rw [jS hl] at O;cases O
   by_cases P:8<S.size
   .go_wp2;go_ret2;exact Fk.same f K.out y (by simp [Cf,P])
   cases L
   rotate_left
   .have p:=F.out.1 rfl;go_wp2;go_ret2;exact Fk.same f K.out y (by simp [Cf,P,W,p])
   have p:¬(c<0\/6<c):=fun h=>by cases F.out.2 h
   cases t
   rotate_left
   .have Y:Hid (¬(c<0\/6<c)):=p;clear p;go_wp2;go_ret2;exact Fk.same f K.out y (by simp [Cf,P,W,Y.out])
   cases ac:((B.length:Int)==8)
   rotate_left
   .have hl:B.length=8:=by have:=beq_iff_eq.1 ac;omega
    have Y:Hid (¬(c<0\/6<c)):=p;clear p;go_wp2;go_ret2;exact Fk.same f K.out y (by simp [Cf,P,W,Y.out,hl])
   have hl:¬B.length=8:=fun h=>by rw [h] at ac;cases ac
   have Y:Hid (¬(c<0\/6<c)):=p;clear p;go_wp2_with (first|(at_builtin;refine wpList_append_own _ rfl _ _ 45 rfl s.heap.size 57 i0 (.agg #[.string ByteArray.empty,.int .i64 0]) 2 24 Tryz.underlying45 hi H I J rfl ji _ k (AC (B.take k)) rfl ?p1 ⟨w2.heap.size,0,none⟩ 1 1 [.string S,.int .i64 c] rfl rfl ?d1 ?d2 ?d3 ?d4 ?d5 ?_))
   case p1=>exact d.alloc _
   case d1=>exact I0 _ _ _ _ _ rfl
   case d2=>intro u hu;simp at hu;rcases hu with rfl|rfl <;>rfl
   case d3=>unfold maxLen;omega
   case d4=>omega
   case d5=>have:=m.size;simp;omega
   intro v3 w3 o i _;have q:Aa s w3:=(m.step_alloc _).grown i (fun g x=>(d.lt g x).1);have ae:=q.cell V;clear i;have Q:=Z.later (n.trans q);go_wp2_with (first|(at_builtin;refine Fn _ rfl _ _ 45 rfl s.heap.size 57 i0 (.agg #[.string ByteArray.empty,.int .i64 0]) 2 24 Tryz.underlying45 hi H I J rfl ji _ (k+1) (AC (B.take k)++[.string S,.int .i64 c]) rfl ?q1 _ (B.length - (k)) (AC (B.drop (k))) rfl ?q2 ?e1 ?e2 ?e3 ?e4 ?e5 ?_))
   case q1=>exact o
   case q2=>exact Ld Q ab
   case e1=>rw [Jn];simp
   case e2=>exact JR _
   case e3=>unfold maxLen;omega
   case e4=>omega
   case e5=>exact q.size
   intro v4 w4 b a;have R:Aa s w4:=q.grown a (fun g x=>(o.lt g x).1);clear a;go_wp2;go_ret2;have z:Cf B 4 S c k false=(B.take k++[(S,c)]++B.drop (k),0):=by simp [Cf,P,W,Y.out,hl]
   refine ⟨v4,k,false,0,rfl,n.trans R,K.out,?_,by rw [z],fun _ g x=>jX n.size (b.lt g x).1⟩;rw [z];have hr:=Ap.of_owns b;have D:(B.take k++[(S,c)]++B.drop (k)).length=k+1+(B.length - (k)):=jx
   have E:AC (B.take k++[(S,c)]++B.drop (k))=(AC (B.take k)++[.string S,.int .i64 c])++AC (B.drop (k)):=by simp [AC]
   show Ap _ _ _ _;rw [D,E];simpa using hr
  .cases t
   .go_wp2;go_ret2;exact Fk.same f K.out y (by simp [Cf])
   .have T:k+1<=B.length:=by obtain ⟨h,_⟩:=K.out.2.2.2.1 rfl;omega
    have q:=m;have Q:=Z.later (n.trans m);have af:∀M,(Instr.slice 45 (.slice v B.length l) (some (.int .i64 ((k:Int)+1))) none none).run Tryz.prog M= .ok (GI v B.length l (k+1)) M:=fun M=>by have:=LW M v B.length l (k+1) T;simpa using this
    clear ad;go_wp2_with (first|(at_builtin;refine Fn _ rfl _ _ 45 rfl s.heap.size 57 i0 (.agg #[.string ByteArray.empty,.int .i64 0]) 2 24 Tryz.underlying45 hi H I J rfl ji _ (k) (AC (B.take k)) rfl ?q1 _ (B.length - (k+1)) (AC (B.drop (k+1))) rfl ?q2 ?e1 ?e2 ?e3 ?e4 ?e5 ?_))
    case q1=>exact d
    case q2=>exact Ld Q T
    case e1=>rw [Jn];simp
    case e2=>exact JR _
    case e3=>unfold maxLen;omega
    case e4=>omega
    case e5=>exact m.size
    intro v4 w4 b a;have R:Aa s w4:=m.grown a (fun g x=>(d.lt g x).1);clear a;go_wp2;go_ret2;have z:Cf B 5 S c k true=(B.take k++[]++B.drop (k+1),0):=by simp [Cf]
    refine ⟨v4,k,true,0,rfl,n.trans R,K.out,?_,by rw [z],fun _ g x=>jX n.size (b.lt g x).1⟩;rw [z];have hr:=Ap.of_owns b;have D:(B.take k++([]:List BK)++B.drop (k+1)).length=k+(B.length - (k+1)):=jx
    have E:AC (B.take k++([]:List BK)++B.drop (k+1))=(AC (B.take k))++AC (B.drop (k+1)):=by simp [AC]
    show Ap _ _ _ _;rw [D,E];exact hr
  .cases L
   rotate_left
   .have p:=F.out.1 rfl;go_wp2;go_ret2;exact Fk.same f K.out y (by simp [Cf,p])
   have Y:Hid (¬(c<0\/6<c)):=fun h=>by cases F.out.2 h
   cases t
   .go_wp2;go_ret2;exact Fk.same f K.out y (by simp [Cf,Y.out])
   .have T:k+1<=B.length:=by obtain ⟨h,_⟩:=K.out.2.2.2.1 rfl;omega
    go_wp2_with (first|(at_builtin;refine wpList_append_own _ rfl _ _ 45 rfl s.heap.size 57 i0 (.agg #[.string ByteArray.empty,.int .i64 0]) 2 24 Tryz.underlying45 hi H I J rfl ji _ k (AC (B.take k)) rfl ?p1 ⟨w2.heap.size,0,none⟩ 1 1 [.string S,.int .i64 c] rfl rfl ?d1 ?d2 ?d3 ?d4 ?d5 ?_))
    case p1=>exact d.alloc _
    case d1=>exact I0 _ _ _ _ _ rfl
    case d2=>intro u hu;simp at hu;rcases hu with rfl|rfl <;>rfl
    case d3=>unfold maxLen;omega
    case d4=>omega
    case d5=>have:=m.size;simp;omega
    intro v3 w3 o i _;have q:Aa s w3:=(m.step_alloc _).grown i (fun g x=>(d.lt g x).1);have ae:=q.cell V;clear i;have Q:=Z.later (n.trans q);have af:∀M,(Instr.slice 45 (.slice v B.length l) (some (.int .i64 ((k:Int)+1))) none none).run Tryz.prog M= .ok (GI v B.length l (k+1)) M:=fun M=>by have:=LW M v B.length l (k+1) T;simpa using this
    clear ad;go_wp2_with (first|(at_builtin;refine Fn _ rfl _ _ 45 rfl s.heap.size 57 i0 (.agg #[.string ByteArray.empty,.int .i64 0]) 2 24 Tryz.underlying45 hi H I J rfl ji _ (k+1) (AC (B.take k)++[.string S,.int .i64 c]) rfl ?q1 _ (B.length - (k+1)) (AC (B.drop (k+1))) rfl ?q2 ?e1 ?e2 ?e3 ?e4 ?e5 ?_))
    case q1=>exact o
    case q2=>exact Ld Q T
    case e1=>rw [Jn];simp
    case e2=>exact JR _
    case e3=>unfold maxLen;omega
    case e4=>omega
    case e5=>exact q.size
    intro v4 w4 b a;have R:Aa s w4:=q.grown a (fun g x=>(o.lt g x).1);clear a;go_wp2;go_ret2;have z:Cf B 6 S c k true=(B.take k++[(S,c)]++B.drop (k+1),0):=by simp [Cf,Y.out]
    refine ⟨v4,k,true,0,rfl,n.trans R,K.out,?_,by rw [z],fun _ g x=>jX n.size (b.lt g x).1⟩;rw [z];have hr:=Ap.of_owns b;have D:(B.take k++[(S,c)]++B.drop (k+1)).length=k+1+(B.length - (k+1)):=jx
    have E:AC (B.take k++[(S,c)]++B.drop (k+1))=(AC (B.take k)++[.string S,.int .i64 c])++AC (B.drop (k+1)):=by simp [AC]
    show Ap _ _ _ _;rw [D,E];rw [show k+1+(B.length - (k+1))=B.length by omega];simpa using hr
theorem LZ {B:List BK} {S:jt} {k:Nat} (l:Ep B) (h:Ez B S k false):¬Bq S B<B.length:=by
 intro a;have d:=Ho a;obtain ⟨p,m,n,o⟩:=h;have f:¬∃h:k<B.length,B[k].1=S:=fun e=>by cases o.2 e
 rcases Nat.lt_trichotomy (Bq S B) k with b|b|b
 .have:=m _ a b;rw [d,Ln] at this;cases this
 .subst b;exact f ⟨a,d⟩
 .have c:k<B.length:=jo
  have g:=n c;have i:=(List.pairwise_iff_getElem.1 l) k (Bq S B) c a b;rw [d] at i;rw [i] at g;cases g
theorem MB {B:List BK} {S:jt} {k:Nat} (b:Ep B) (h:Ez B S k true):Bq S B=k/\k<B.length:=by
 obtain ⟨f,g,i,c⟩:=h;obtain ⟨a,d⟩:=c.1 rfl;refine ⟨?_,a⟩;rw [<-d];exact RM b a
theorem Xv {m:BK}:∀{B:List BK} {k:Nat},k<=B.length->(∀j (h:j<B.length),j<k->AO B[j].1 m.1=true)->(∀h:k<B.length,AO m.1 B[k].1=true)->Bg m B=B.take k++[m]++B.drop k:=by
 intro B
 induction B with
 |nil=>intro k a _ _;simp at a;subst a;rfl
 |cons b B ih=>
  intro k a f g;cases k with
  |zero=>
   have:=g js;simp at this;simp [Bg,this]
  |succ k=>
   have i:=f 0 js jo;simp at i;have c:=Qj i;have:=ih (k:=k) (by simpa using a) (fun j l n=>by have:=f (j+1) (by simpa using l) jo;simpa using this) (fun d=>by have:=g (by simpa using d);simpa using this);simp only [Bg,c,List.take_succ_cons,List.drop_succ_cons,List.cons_append];simpa using this
theorem Ym {B:List BK} {S:jt} {n:Int} {k:Nat} (h:Ez B S k false):Bg (S,n) B=B.take k++[(S,n)]++B.drop k:=by
 obtain ⟨b,c,d,f⟩:=h;refine Xv b c (fun a=>?_);have g:=d a;cases i:AO S B[k].1
 .exact absurd (f.2 ⟨a,Pi g i⟩) js
 .rfl
theorem Qw {B:List BK} {S:jt} {n:Int} {k:Nat} {a:Bool} (d:AH B) (h:Ez B S k a):Cf B 4 S n k a=(Dj B S n,Cw B S n):=by
 have o:=d.1.1;unfold Cf Dj Cw;by_cases g:S.size=0\/8<S.size
 .have b:S.size<1\/8<S.size:=jo
  rw [if_pos ⟨rfl,g⟩,if_pos b];simp
 .have b:¬(S.size<1\/8<S.size):=jo
  simp only [g,b,and_false,if_false];by_cases i:n<0\/6<n
  .simp [i]
  .simp only [i,and_false,if_false];cases a
   .have l:=LZ d.2 h;simp only [l,if_false];by_cases m:B.length=8
    .have c:8<=B.length:=jo
     simp [m]
    .have c:¬8<=B.length:=jo
     simp [m,c,Ym h]
   .have l:=MB d.2 h;have f:Bq S B<B.length:=jo
    simp [f]
theorem TI {B:List BK} {S:jt} {n:Int} {k:Nat} {a:Bool} (c:AH B) (h:Ez B S k a):Cf B 5 S n k a=(EQ B S,Ej B S):=by
 unfold Cf EQ Ej;cases a
 .have b:=LZ c.2 h;simp [b]
 .obtain ⟨b,d⟩:=MB c.2 h;have f:Bq S B<B.length:=jo
  simp [b,List.eraseIdx_eq_take_drop_succ];exact ⟨fun g=>absurd d jo,d⟩
theorem Sl {B:List BK} {S:jt} {n:Int} {k:Nat} {a:Bool} (c:AH B) (h:Ez B S k a):Cf B 6 S n k a=(Er B S n,Dy B S n):=by
 unfold Cf Er Dy;by_cases d:n<0\/6<n
 .simp [d]
 .simp only [d,and_false,if_false];cases a
  .have b:=LZ c.2 h;simp [b]
  .obtain ⟨b,f⟩:=MB c.2 h;have g:Bq S B<B.length:=jo
   simp [b,f,List.set_eq_take_append_cons_drop]
theorem Ap.masks {M:jr} {w:jj} {v:ju} {n:Nat} {a:List Value} (h:Ap w v n a) (b:∀g,v.ownBlock=some g->g∉M):Ap (Ay M w) v n a:=by
 rcases h with h|⟨g,cap,rfl,c,d,f⟩
 .exact Or.inl h
 .exact Or.inr ⟨g,cap,rfl,c,by rw [Eo];exact d,fun j u i=>Bn.2 ⟨f j u i,b g rfl⟩⟩
theorem IZ.has {M:jr} {w w':jj} {c:Ac} {b:Int} {d:ju} {B:List BK} {e:Ending} (h:IZ w c b d B e w') (f:b≠0) (n:∀k∈M,k<w.heap.size) (o:∀g,d.ownBlock=some g->g∉M):
  ∃q,e= .returned (.pointer (some ⟨q,0,none⟩))/\Aa w w'/\w.heap.size<=q/\DQ (Ay M w') (.pointer (some ⟨q,0,none⟩)) c B b:=by
 obtain ⟨q,p,E,rfl,r,s,⟨⟨t,u,v,x,y,z⟩,A,C,D,F,i⟩,G,l,H,m⟩:=h;have a:q∉M:=fun e=>by have:=n q e;omega
 exact ⟨q,rfl,r,s,Or.inr ⟨q,E,rfl,⟨d,p,⟨Bn.2 ⟨t,a⟩,Bn.2 ⟨u,a⟩,Bn.2 ⟨v,a⟩,Bn.2 ⟨x,a⟩,Bn.2 ⟨y,a⟩,Bn.2 ⟨z,a⟩⟩,Bn.2 ⟨A,a⟩,Bn.2 ⟨C,a⟩,Bn.2 ⟨D,a⟩,Ap.masks F o,Ap.masks i (fun g I e=>by have:=n g e;have:=G g I;omega)⟩,l,H,m,f⟩⟩
def Fi (base:Nat) (M:jr) (y:Ah) (w:jj) (e:Ending) (w':jj):Prop:=e= .returned (.bool true)/\∃b:Ah,Ab [y.a,y.q] w w'/\b.At base M w'/\b.a=y.a/\b.q=y.q/\b.vp=y.vp/\b.ps=y.ps/\(b.L=y.L/\b.pp=y.pp)/\b.g<=y.g+1
def AM (base:Nat) (M:jr) (y:Ah) (w:jj):Prop:=y.At base M w/\(∀k∈M,k<w.heap.size)/\(∀j∈y.blocks,j∈M)/\y.blocks.Nodup/\y.g<=69999
theorem AM.ne {base:Nat} {M:jr} {y:Ah} {w:jj} (h:AM base M y w):y.a≠y.q/\(∀j∈y.vp.ownBlock.toList,j∉[y.a,y.q])/\∀z∈y.ps,∀j∈z.blocks,j∉[y.a,y.q]:=by
 have d:=h.2.2.2.1;unfold Ah.blocks at d;rw [List.nodup_cons,List.nodup_cons] at d;obtain ⟨c,f,i⟩:=d;simp only [ja,jT,not_or] at c f;refine ⟨c.1,fun j b e=>?_,fun z g j b e=>?_⟩
 .simp only [ja,List.not_mem_nil,or_false] at e;rcases e with rfl|rfl
  .exact c.2.1.1 b
  .exact f.1.1 b
 .simp only [ja,List.not_mem_nil,or_false] at e;rcases e with rfl|rfl
  .exact c.2.1.2 (jd.2 ⟨z,g,b⟩)
  .exact f.1.2 (jd.2 ⟨z,g,b⟩)
theorem AM.delta {base:Nat} {M:jr} {y:Ah} {w w':jj} (h:AM base M y w) (n:Ab [y.a,y.q] w w') (b:Ah) (r:b.a=y.a) (s:b.q=y.q) (t:b.c=y.c) (f:b.vp=y.vp) (i:b.ps=y.ps) (u:Cz y.a b.cells w') (v:AG M y.q ⟨y.c,b.B,b.g,y.L,y.pp⟩ w') (d:b.L=y.L/\b.pp=y.pp) (x:Am (Ay M w') b.vb b.B) (A:AH b.B)
  (k:0<=b.g/\b.g<=70000/\(b.g=0->b.B=[])) (C:DQ (Ay M w') b.vs y.c b.B b.g):b.At base M w':=by
 obtain ⟨I,D,E⟩:=h.ne
 have l : ∀ j ∈ [y.a, y.q], j ∈ M \/ w.heap.size <= j := fun j o => Or.inl (h.2.2.1 j (by
   simp only [ja, List.not_mem_nil, or_false] at o
   rcases o with rfl | rfl <;> simp [Ah.blocks]))
 obtain ⟨⟨J,K,N,O,F,P,Q,G,H,m⟩, -⟩:=h;unfold Ah.At Ah.svp;rw [r,s,t,f,i,d.1,d.2];refine ⟨u,v,x,A,F,k,C,AY G n (fun g k=>D g (by simp [k])),H,fun z p=>(m z p).but n l (E z p)⟩
theorem Ap.but {N:jr} {w w':jj} {v:ju} {n:Nat} {a:List Value} (h:Ap w v n a) (b:Ab N w w') (c:∀g,v.ownBlock=some g->g∉N):Ap w' v n a:=by
 rcases h with h|⟨g,cap,rfl,d,f,i⟩
 .exact Or.inl h
 .exact Or.inr ⟨g,cap,rfl,d,jN f b.size,fun j u k=>b.cell (i j u k) (c g rfl)⟩
theorem AM.mem {base:Nat} {M:jr} {y:Ah} {w:jj} (h:AM base M y w):y.a∈M/\y.q∈M/\y.a<w.heap.size/\y.q<w.heap.size:=
 ⟨h.2.2.1 _ (by simp [Ah.blocks]),h.2.2.1 _ (by simp [Ah.blocks]),h.2.1 _ (h.2.2.1 _ (by simp [Ah.blocks])),h.2.1 _ (h.2.2.1 _ (by simp [Ah.blocks]))⟩
theorem AM.own_a {base:Nat} {M:jr} {y:Ah} {w:jj} (h:AM base M y w) {c:Ac} {B:List BK} {g:Int}:y.a∉(AT.mk c B g y.L y.pp).own y.q:=fun e=>by
 have b:=h.2.2.2.1;unfold Ah.blocks at b;rw [List.nodup_cons] at b;unfold AT.own at e;refine b.1 ?_;simp only [ja,jT] at e |-;rcases e with e|e|e
 .exact Or.inl e
 .exact Or.inr (Or.inr (Or.inl e))
 .exact Or.inr (Or.inr (Or.inr e))
theorem AM.same {base:Nat} {M:jr} {y:Ah} {w l i:jj} (h:AM base M y w) (p:Ab [y.q] w l) (m:AG M y.q ⟨y.c,y.B,y.g,y.L,y.pp⟩ l) (o:Aa l i):Fi base M y w (.returned (.bool true)) i:=by
 obtain ⟨t,r,u,v⟩:=h.mem;have s:=h.ne.1;have b:Ab [y.q] w i:=p.step o;have d:∀k∈[y.q],k∈M\/w.heap.size<=k:=fun k n=>Or.inl (by rw [jP.1 n];exact r)
 have f:Ab [y.a,y.q] w i:=b.mono (fun k n=>Or.inl (by rw [jP.1 n];simp));refine ⟨rfl,y,f,h.delta f y rfl rfl rfl rfl rfl (h.1.1.but b (by simpa using s)) (m.later o) ⟨rfl,rfl⟩ (h.1.2.2.1.later (b.mono d)) h.1.2.2.2.1 h.1.2.2.2.2.2.1 (h.1.2.2.2.2.2.2.1.masks b d),rfl,rfl,rfl,rfl,⟨rfl,rfl⟩,jo⟩
theorem AM.done {base:Nat} {M:jr} {y:Ah} {w p b d:jj} {f:List BK} {v:ju} {n:Nat} (h:AM base M y w) (I:Ab [y.q] w p) (r:AG M y.q ⟨y.c,f,y.g+1,y.L,y.pp⟩ p) (D:Aa p b) (s:Am b v f) (E:∀g,v.ownBlock=some g->w.heap.size<=g) (J:AH f)
  (F:Aa (b.setCell ⟨y.a,7,none⟩ v) d) (K:DQ (Ay M d) (.pointer (some ⟨n,0,none⟩)) y.c f (y.g+1)):Fi base M y w (.returned (.bool true)) (d.setCell ⟨y.a,8,none⟩ (.pointer (some ⟨n,0,none⟩))):=by
 obtain ⟨N,U,V,W⟩:=h.mem;have O:=h.ne.1;have G:=h.2.2.2.2;have P:=h.1.2.2.2.2.2.1.1;have i:Ab [y.q] w b:=I.step D;have l:∀{Q:jj},∀k∈[y.a],k∈M\/Q.heap.size<=k:=fun k m=>Or.inl (by rw [jP.1 m];exact N)
 have R:Ab [y.a] b (b.setCell ⟨y.a,7,none⟩ v):=(Ab.refl _ _).set js _;have S:Ab [y.a] b d:=R.step F;have H:Ab [y.a] d (d.setCell ⟨y.a,8,none⟩ (.pointer (some ⟨n,0,none⟩))):=(Ab.refl _ _).set js _;have t:=S.trans H;have o:Ab [y.a,y.q] w (d.setCell ⟨y.a,8,none⟩ (.pointer (some ⟨n,0,none⟩))):=(i.mono (fun k m=>Or.inl (by rw [jP.1 m];simp))).trans (t.mono (fun k m=>Or.inl (by rw [jP.1 m];simp)));have u:∀g,v.ownBlock=some g->g∉M:=fun g x e=>by have:=h.2.1 g e;have:=E g x;omega
 have z:∀g,v.ownBlock=some g->g∉[y.a]:=fun g x e=>by have:=E g x;rw [jP.1 e] at this;omega
 have A:Cz y.a y.cells b:=h.1.1.but i (by simpa using O);have C:=((A.set 7 v).later F).set 8 (.pointer (some ⟨n,0,none⟩));refine ⟨rfl,{y with B:=f,g:=y.g+1,vb:=v,vs:= .pointer (some ⟨n,0,none⟩)},o,h.delta o _ rfl rfl rfl rfl rfl C ((r.later D).but t (fun j T e=>?_) l) ⟨rfl,rfl⟩ (Ap.masks (Ap.but s t z) u) J ⟨?_,?_,?_⟩ (K.masks H l),rfl,rfl,rfl,rfl,⟨rfl,rfl⟩,?_⟩
 .rw [jP.1 T] at e;exact h.own_a e
 .show 0<=y.g+1;omega
 .show y.g+1<=70000;omega
 .show y.g+1=0->_;intro e;omega
 .show y.g+1<=y.g+1;omega
theorem Ah.count (y:Ah) (j:Nat):y.blocks.count j=[y.a].count j+[y.q].count j+y.vp.ownBlock.toList.count j+(y.ps.flatMap Au.blocks).count j+(y.L.count j+(Bh y.pp).count j):=by
 have:y.blocks=[y.a]++([y.q]++((y.vp.ownBlock.toList++y.ps.flatMap Au.blocks)++(y.L++Bh y.pp))):=rfl;rw [this];simp only [List.count_append];omega
theorem GS (a:Nat):1<=[a].count a:=Ak.1 js
def B9 (base:Nat) (M:jr) (y:Ah) (w w':jj) (b:Ah):Prop:=∃N K:jr,Ab N w w'/\(∀j∈N,j∈y.blocks)/\b.a=y.a/\b.blocks.Nodup/\(∀j∈b.blocks,(j∈y.blocks\/w.heap.size<=j)/\j<w'.heap.size)/\(∀j∈K,(j∈M\/w.heap.size<=j)/\j<w'.heap.size)/\b.At base (b.blocks++(K++M)) w'/\b.g<=y.g+1
def El (base:Nat) (M:jr) (y:Ah) (w w':jj):Prop:=∃a,B9 base M y w w' a/\a.even
theorem B9.later {base:Nat} {M:jr} {y c:Ah} {w d f:jj} (h:B9 base M y w d c) (b:Aa d f):B9 base M y w f c:=by
 obtain ⟨N,K,k,l,m,n,g,i,o,p⟩:=h;exact ⟨N,K,k.step b,l,m,n,fun j a=>⟨(g j a).1,jN (g j a).2 b.size⟩,fun j a=>⟨(i j a).1,jN (i j a).2 b.size⟩,o.but (N:=[]) (Ab.of_bel b) js js,p⟩
theorem B9.at {base:Nat} {M:jr} {y a:Ah} {w w':jj} (h:B9 base M y w w' a):∃M',a.At base M' w':=by
 obtain ⟨N,K,c,d,f,g,i,k,b,l⟩:=h;exact ⟨_,b⟩
theorem B9.size {base:Nat} {M:jr} {y a:Ah} {w w':jj} (h:B9 base M y w w' a):w.heap.size<=w'.heap.size:=by
 obtain ⟨N,K,b, -⟩:=h;exact b.size
theorem El.later {base:Nat} {M:jr} {y:Ah} {w a c:jj} (h:El base M y w a) (b:Aa a c):El base M y w c:=by
 obtain ⟨d,f,g⟩:=h;exact ⟨d,f.later b,g⟩
theorem Ao.dpre {d:Aw} {s:Nat} {x:WG} {w:jj} (h:Ao d s x w) (k:Nat) (i:k<x.prs.length) (o:s<=69999):AM d.heap.size x.M x.prs[k] w:=by
 have f:=h.2.2.2.2.2.2.2.2.2.2.2.2.2 _ (jJ i);have b:∀j,(x.prs[k]).blocks.count j<=(x.prs.flatMap Ah.blocks).count j:=fun j=>FL _ j _ _ (jJ _)
 have g:=WG.count x;have l:=DK h.2.2.1;refine ⟨f.1,fun j c=>(h.2.2.2.2.1 j c).2,fun j c=>h.2.2.2.1 j (Ak.2 ?_),List.nodup_iff_count.2 fun a=>?_,by have:=f.2.1;omega⟩
 .have p:=Ak.1 c;have m:=b j;have n:=g j;omega
 .have m:=b a;have n:=g a;have q:=l a;omega
theorem Ao.rpr {b:Aw} {s:Nat} {x:WG} {w w':jj} (h:Ao b s x w) (k:Nat) (g:k<x.prs.length) (l:El b.heap.size x.M x.prs[k] w w'):∃i,Ao b (s+1) i w'/\i.p=x.p:=by
 obtain ⟨m,⟨N,K,n,o,q,c,a,r,d,t⟩,f⟩:=l;have u:=(h.2.2.2.2.2.2.2.2.2.2.2.2.2 _ (jJ g)).2.1;exact ⟨_,h.pr k g N n o m q c a K r d ⟨by push_cast;omega,f⟩ jo,rfl⟩
theorem Ao.even {a:Aw} {s:Nat} {x:WG} {w:jj} (h:Ao a s x w) (k:Nat) (b:k<x.prs.length):(x.prs[k]).even:=(h.2.2.2.2.2.2.2.2.2.2.2.2.2 _ (jJ b)).2.2
theorem AM.le {base:Nat} {M:jr} {y:Ah} {w:jj} (h:AM base M y w) (j:Nat):[y.a].count j+[y.q].count j+y.vp.ownBlock.toList.count j+(y.ps.flatMap Au.blocks).count j+(y.L.count j+(Bh y.pp).count j)<=1:=by
 have:=DK h.2.2.2.1 j;rw [Ah.count] at this;exact this
theorem Fi.rpr {base:Nat} {M:jr} {y:Ah} {w w':jj} {e:Ending} (h:AM base M y w) (p:Fi base M y w e w') (g:y.even):El base M y w w':=by
 obtain ⟨-,m,n,i,o,r,k,d,⟨s,f⟩,t⟩:=p;have c:m.blocks=y.blocks:=by unfold Ah.blocks;rw [o,r,k,d,s,f]
 have l:=n.size;refine ⟨m,⟨[y.a,y.q],[],n,fun j b=>?_,o,c ▸ h.2.2.2.1,fun j b=>?_,js,i.app (fun j b=>Or.inl (h.2.2.1 j (c ▸ b))),t⟩,by unfold Ah.even;rw [f,d];exact g⟩
 .simp only [ja,List.not_mem_nil,or_false] at b;rcases b with rfl|rfl <;>simp [Ah.blocks]
 .rw [c] at b;exact ⟨Or.inl b,jN (h.2.1 j (h.2.2.1 j b)) l⟩
theorem AM.pl {base:Nat} {M:jr} {y:Ah} {w w':jj} (h:AM base M y w) (N:jr) (s:Ab N w w') (C:∀j∈N,1<=[y.a].count j+y.vp.ownBlock.toList.count j+(y.ps.flatMap Au.blocks).count j) (c:ju) (b:List Au) (E:Cz y.a (Ah.cells {y with vp:=c,ps:=b}) w')
  (l:w'.ownsRow base 101 1 c b.length (b.map fun z=>Value.pointer (some ⟨z.p,0,none⟩))) (m:b.length<=4) (v:∀j,c.ownBlock.toList.count j+(b.flatMap Au.blocks).count j<=1)
  (d:∀j,1<=c.ownBlock.toList.count j+(b.flatMap Au.blocks).count j->(1<=y.vp.ownBlock.toList.count j+(y.ps.flatMap Au.blocks).count j\/w.heap.size<=j)/\j<w'.heap.size)
  (x:∀z∈b,z.At ((Ah.blocks {y with vp:=c,ps:=b})++M) w'):B9 base M y w w' {y with vp:=c,ps:=b}:=by
 have n:=h.le;obtain ⟨V,W,X,Y⟩:=h.mem;have A:=s.size;have f:=Ah.count {y with vp:=c,ps:=b};simp only at f;have o:∀j∈N,j∈y.blocks:=fun j k=>Ak.2 (by rw [Ah.count];have:=C j k;omega)
 have i:∀j∈Ah.blocks {y with vp:=c,ps:=b},(j∈y.blocks\/w.heap.size<=j)/\j<w'.heap.size:=fun j k=>by
  have F:=Ak.1 k;rw [f] at F;by_cases t:1<=c.ownBlock.toList.count j+(b.flatMap Au.blocks).count j
  .refine ⟨(d j t).1.imp (fun e=>Ak.2 (by rw [Ah.count];omega)) id,(d j t).2⟩
  .have:j∈y.blocks:=Ak.2 (by rw [Ah.count];omega);exact ⟨Or.inl this,jN (h.2.1 j (h.2.2.1 j this)) A⟩
 have G:∀j∈Ah.blocks {y with vp:=c,ps:=b},j∈M\/w.heap.size<=j:=fun j k=>(i j k).1.imp (fun e=>h.2.2.1 j e) id
 have r:∀j∈N,j∈(Ah.blocks {y with vp:=c,ps:=b})++M\/w.heap.size<=j:=fun j k=>Or.inl (jU _ (h.2.2.1 j (o j k)))
 have B:∀j∈N,j∉y.svp.own y.q:=fun j k e=>by
  have H:=C _ k;have I:=n j;have J:=FZ y.svp y.q j;have K:=Ak.1 e;simp only [Ah.svp] at J;simp only [Ah.svp] at K;omega
 obtain ⟨Z,O,P,Q,R,S,T,h8,h9,U⟩:=h.1.app G;have D:Aa (Ay ((Ah.blocks {y with vp:=c,ps:=b})++M) w) (Ay ((Ah.blocks {y with vp:=c,ps:=b})++M) w'):=s.mono r;refine ⟨N,[],s,o,rfl,List.nodup_iff_count.2 fun a=>?_,i,js,⟨E,O.but s B r,P.later D,Q,R,S,T.later D,l,m,x⟩,by show y.g<=y.g+1;omega⟩;rw [f];have H:=n a;have I:=v a;by_cases t:1<=c.ownBlock.toList.count a+(b.flatMap Au.blocks).count a
 .rcases (d a t).1 with e|e
  .omega
  .have b1:[y.a].count a=0:=jZ fun u=>by
    have:=jP.1 (jb.1 u);omega
   have b2:[y.q].count a=0:=jZ fun u=>by
    have:=jP.1 (jb.1 u);omega
   have b3:y.L.count a+(Bh y.pp).count a=0:=jZ fun u=>by
    have:=h.2.1 a (h.2.2.1 a (Ak.2 (by rw [Ah.count];omega)));omega
   omega
 .omega
theorem AM.others {base:Nat} {M:jr} {y:Ah} {w w':jj} (h:AM base M y w) (N:jr) (b:Ab N w w') (c:∀j∈N,j∈y.blocks) (L:jr) (d:∀j∈L,j∈y.blocks\/w.heap.size<=j) (z:Au) (f:z∈y.ps) (g:∀j∈z.blocks,j∉N):z.At (L++M) w':=by
 have i:∀j∈L,j∈M\/w.heap.size<=j:=fun j a=>(d j a).imp (fun e=>h.2.2.1 j e) id
 have:=(h.1.app i).2.2.2.2.2.2.2.2.2 z f;exact this.but b (fun j a=>Or.inl (jU _ (h.2.2.1 j (c j a)))) g
end Go.Proofs.YtpapdkhjdelfcaaGreat
