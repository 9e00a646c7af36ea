import Derived.Test.YtpapdkhjdelfcaaGreatMAE
namespace Go.Proofs.YtpapdkhjdelfcaaGreat
open Go.RowKit
set_option maxRecDepth 100000
set_option maxHeartbeats 4000000
theorem SJ (c:Ac) (v:ju) (k:jt) (w:jj) (t:AR w v []) (q:c.OK) (y:k.size<=4611686018427386000):
  Calls Tryz.prog 189 #[.agg c.cells,v,.string k] w (D9 w 0):=by
 obtain ⟨z,A,u⟩:1<=c.probes/\c.probes<=5/\c.key.size=16:=⟨q.2.2.2.2.2.2.2.1,q.2.2.2.2.2.2.2.2.1,q.2.2.2.2.2.2.2.2.2.1⟩;have f:=fun h i hx=>Is [] v h i hx js
 have m:∀h,A8 [] h=0:=fun _=>rfl
 obtain ⟨alg,l,g,a,key,b⟩:=c;simp only [Ac.cells] at *;obtain ⟨D,cap,rfl, -⟩:=t.open;have B:∀i:jj,Calls Tryz.prog 142 #[.string key,.int .u8 112,.slice (some ⟨i.heap.size,0,none⟩) 1 1,.string k] (i.alloc (.cells #[.int .i64 0] 3)) (Kd (i.alloc (.cells #[.int .i64 0] 3)) (Al key 112 [0] k)):=fun i=>F5 key 112 [0] (.slice (some ⟨i.heap.size,0,none⟩) 1 1) k _ (Jl i 0) js jo y
 generalize Al key 112 [0] k=x at *;have f:=f x;rw [m] at f;clear q m;have E:decide ((0:Int)<a)=true:=jL jo;go_enter Tryz.func189,Tryz.ntmps189;go_wp2;obtain ⟨n,d⟩:∃n,n=w.alloc (.cells #[.int .i64 alg,.int .i64 l,.int .i64 g,.int .i64 a,.string key,.int .i64 b] 30):=⟨_,rfl⟩;have F:n.cell? ⟨w.heap.size,3,none⟩=some (.int .i64 a):=by rw [d];simp
 have G:n.cell? ⟨w.heap.size,4,none⟩=some (.string key):=by rw [d];simp
 have r:Aa w n:=by rw [d];exact (jD w).step_alloc _
 rw [<-d];clear d;refine wp_loop_rounds 1 ?_;rw [rounds_succ];go_wp2_with fail;refine (B _).mono ?_;rintro e C ⟨rfl,o⟩;have p:Aa w C:=(r.step_alloc _).trans o;clear o;go_wp2_with fail;refine (f _ (t.later p)).mono ?_;rintro e H ⟨rfl,s⟩;go_wp2;go_ret;exact ⟨rfl,p.trans s⟩
theorem To (q:Nat) (c:Ac) (O n:ju) (E:List EI) (k:jt) (w:jj) (P:Cx w q c O n) (v:AR w n E) (J:E.length<=65536) (y:c.OK) (z:k.size<=4611686018427386000):
  Calls Tryz.prog 165 #[.pointer (some ⟨q,0,none⟩),.string k] w (D9 w (Dc c E k)):=by
 obtain ⟨⟨p,A,B,C,D,F⟩,V,G⟩:=P;have K:c.key.size=16:=y.2.2.2.2.2.2.2.2.2.1;obtain ⟨X,o⟩:∃X,X=Dc c E k:=⟨_,rfl⟩;rw [<-o];by_cases r:c.alg=4
 .have H:∀l,AR l n E->Calls Tryz.prog 189 #[.agg c.cells,n,.string k] l (D9 l X):=by
   intro l hx;by_cases g:E.length=0
   .have:E=[]:=jS g;subst this;rw [o,Dc,if_pos (show ([]:List EI).length=0 from rfl)];exact SJ c n k l hx y z
   .rw [o,Dc,if_neg g,if_pos r];exact R8 c E n k l hx J y z jo
  clear o
  obtain ⟨alg,i,b,d,key,a⟩:=c
  simp only [Ac.cells] at *
  subst r
  go_enter Tryz.func165,Tryz.ntmps165
  go_wp2_with fail
  go_region_held3 (fun w'=>Aa w w'/\w'.cell? ⟨q,0,none⟩=some (.int .i64 4)/\w'.cell? ⟨q,1,none⟩=some (.int .i64 i)/\w'.cell? ⟨q,2,none⟩=some (.int .i64 b)/\w'.cell? ⟨q,3,none⟩=some (.int .i64 d)/\w'.cell? ⟨q,4,none⟩=some (.string key)/\w'.cell? ⟨q,5,none⟩=some (.int .i64 a)/\w'.cell? ⟨q,7,none⟩=some n) ((exact ⟨jq,Aa.cell jq p,Aa.cell jq A,Aa.cell jq B,Aa.cell jq C,Aa.cell jq D,Aa.cell jq F,Aa.cell jq G⟩)) ((go_at_call 189;refine (H _ (v.later jq)).mono ?_;rintro e L ⟨rfl,f⟩))
  all_goals
   go_wp2
   go_ret
   exact ⟨rfl,jq⟩
 .have Q:(c.alg==4)=false:=by rw [jI];exact r
  have M:=fun l=>F5 c.key 107 [] (.slice none 0 0) k l (Kb l) ji jo z
  have N:=He c.key 107 [] k;by_cases u:c.alg=2
  .have m:X=A8 E (Al c.key 107 [] k):=by
    rw [o,Dc];by_cases g:E.length=0
    .have:E=[]:=jS g;subst this;rfl
    .rw [if_neg g,if_neg r,if_pos u]
   have s:=fun l hx=>Is E n (Al c.key 107 [] k) l hx J
   rw [<-m] at s
   generalize Al c.key 107 [] k=x at *
   clear o m
   obtain ⟨alg,i,b,d,key,a⟩:=c
   simp only at *
   subst u
   go_enter Tryz.func165,Tryz.ntmps165
   go_wp2_with fail
   refine (M _).mono ?_
   rintro e L ⟨rfl,f⟩
   have R:=f.cell p
   have S:=f.cell G
   go_wp2_with fail
   refine (s _ (v.later f)).mono ?_
   rintro e T ⟨rfl,I⟩
   go_wp2
   go_ret
   exact ⟨rfl,f.trans I⟩
  .have U:(c.alg==2)=false:=by rw [jI];exact u
   have m:(X:Int)=Cv (Al c.key 107 [] k) (E.length:Int):=by
    rw [o,Dc,Cv];by_cases g:E.length=0
    .rw [if_pos g,if_pos jo];rfl
    .rw [if_neg g,if_neg r,if_neg u,if_neg jo];exact Int.toNat_of_nonneg (Int.emod_nonneg _ jo)
   have t:=fun l=>Kp (Al c.key 107 [] k) (E.length:Int) l N.1 N.2 jo jo
   rw [<-m] at t;generalize Al c.key 107 [] k=x at *;clear o m;obtain ⟨W,cap,rfl, -⟩:=v.open;obtain ⟨alg,i,b,d,key,a⟩:=c;simp only at *;go_enter Tryz.func165,Tryz.ntmps165;go_wp2_with fail;refine (M _).mono ?_;rintro e L ⟨rfl,f⟩;have R:=f.cell p;have S:=f.cell G;go_wp2_with fail;refine (t _).mono ?_;rintro e T ⟨rfl,rfl⟩;go_wp2;go_ret;exact ⟨rfl,f⟩
def GR (c:Ac) (B:List BK) (E:List EI) (k:jt):ByteArray×Int:=match E[Dc c E k]? with
 |some e=>(A7 B e.2,0)
 |none=>(ByteArray.empty,8)
theorem Q8 (c:Ac) (B:List BK) (k:jt):Ee c B k=GR c B (An c B) k:=rfl
def EH (w:jj) (x:ByteArray×Int) (e:Ending) (w':jj):Prop:=e= .returned (.tuple #[.string x.1,.int .i64 x.2])/\Aa w w'
theorem XF (q:Nat) (c:Ac) (m n:ju) (B:List BK) (E:List EI) (k:jt) (w:jj) (r:Cx w q c m n) (A:Am w m B) (u:AR w n E) (C:E.length<=65536) (D:c.OK) (F:k.size<=4611686018427386000):
  Calls Tryz.prog 113 #[.pointer (some ⟨q,0,none⟩),.string k] w (EH w (GR c B E k)):=by
 have i:=To q c m n E k w r u C D F;have a:=fun x v (h:Aa w v)=>Nz q c m n B x v (r.later h) (A.later h)
 obtain ⟨X,f⟩:∃X,X=GR c B E k:=⟨_,rfl⟩;rw [<-f];rw [GR] at f;generalize Dc c E k=p at *;obtain ⟨-, -,y⟩:=r;obtain ⟨K,cap,rfl,b⟩:=u.open;have G:decide ((p:Int)<0)=false:=jK jo;by_cases l:p<E.length
 .rw [jG l] at f;simp only at f;obtain ⟨g,rfl,H,I⟩:=b p l;clear b H;generalize E[p].2=o at *;have a:=a o;generalize A7 B o=L at *;subst f;have s:decide ((p:Int)>=(E.length:Int))=false:=jK jo;go_enter Tryz.func113,Tryz.ntmps113;go_wp2_with fail;refine i.mono ?_;rintro e z ⟨rfl,d⟩;have J:=d.cell y;have M:=d.cell I;have a:=a z d;clear i;go_wp2_with fail
  first
  |refine a.mono ?_
  |(go_quiet (fail);go_wp2_with fail;refine (a.mono ?_))
  rintro e N ⟨rfl,t⟩;go_wp2;go_ret2;exact ⟨rfl,d.trans t⟩
 .rw [List.getElem?_eq_none jo] at f;simp only at f;subst f;clear b a;have s:decide ((p:Int)>=(E.length:Int))=true:=jL jo;go_enter Tryz.func113,Tryz.ntmps113;go_wp2_with fail;refine i.mono ?_;rintro e z ⟨rfl,d⟩;have J:=d.cell y;go_wp2_with fail
  first
  |(go_ret2;exact ⟨rfl,d⟩)
  |(go_quiet (fail);go_wp2;go_ret2;exact ⟨rfl,jq⟩)
def FC (base:Nat) (w:jj) (v:ju) (L:List ByteArray):Prop:=w.ownsRow base 9 1 v L.length (L.map Value.string)
theorem FC.snoc {base:Nat} {w:jj} {v:ju} {L:List ByteArray} {b:jt} {n:Nat} (h:w.ownsRow base 9 1 v n (L.map Value.string++[.string b])) (a:n=L.length+1):FC base w v (L++[b]):=by
 unfold FC;rw [List.map_append,jO];subst a;exact h
def Lx (w:jj) (L:List ByteArray) (e:Ending) (w':jj):Prop:=∃v,e= .returned v/\Aa w w'/\FC w.heap.size w' v L/\(L=[]->v= .slice none 0 0)/\(L≠[]->∃g,v= .slice (some ⟨g,0,none⟩) L.length L.length)
def CM (B:List BK) (E:List EI):List ByteArray:=E.map fun e=>A7 B e.2
theorem XG (q:Nat) (c:Ac) (R S:ju) (B:List BK) (E:List EI) (w:jj) (hT:Cx w q c R S) (hP:Am w R B) (hE:AR w S E) (hB:E.length<=65536):
  Calls Tryz.prog 30 #[.pointer (some ⟨q,0,none⟩)] w (Lx w (CM B E)):=by
 obtain ⟨i0,hi,T,F,U⟩:=info_parts Tryz.infoStr;have l:=fun x wx (h:Aa w wx)=>Nz q c R S B x wx (hT.later h) (hP.later h)
 obtain ⟨-, -,h7⟩:=hT;obtain ⟨ao,cap,rfl,a⟩:=hE.open;by_cases y:E.length=0
 .have:E=[]:=jS y;subst this;clear a l y;go_enter Tryz.func30,Tryz.ntmps30;go_wp2;go_ret;exact ⟨_,rfl,jD _,World.ownsRow_nil _ _ _ _,fun _=>rfl,fun h=>absurd rfl h⟩
 .have ab:((E.length:Int)==0)=false:=by rw [jI];omega
  have G:∀k (h:k<E.length),CM B (E.take (k+1))=CM B (E.take k)++[A7 B E[k].2]:=fun k h=>by
   rw [jQ h,CM,List.map_append];rfl
  have H:∀k,k<=E.length->(CM B (E.take k)).length=k:=fun k h=>by simp [CM];omega
  have HE:Hid (CM B (E.take E.length)=CM B E):=by rw [List.take_length];rfl
  have V:Hid (CM B E≠[]):=fun h=>by
   have:=congrArg List.length h;simp [CM] at this;subst this;exact y rfl
  generalize CM B E=W at *;obtain ⟨t,m⟩:∃t:Nat->List ByteArray,t=fun k=>CM B (E.take k):=⟨_,rfl⟩
  have o:∀k (h:k<E.length),t (k+1)=t k++[A7 B E[k].2]:=fun k h=>by rw [m];exact G k h
  have d:∀k,k<=E.length->(t k).length=k:=fun k h=>by rw [m];exact H k h
  have z:t 0=[]:=by rw [m];rfl
  have I:Hid (t E.length=W):=by rw [m];exact HE.out
  clear G H HE m;go_enter Tryz.func30,Tryz.ntmps30;go_wp2_with (first|(at_make;refine wpList_make_own _ rfl _ _ 36 rfl w.heap.size 9 i0 (.string ByteArray.empty) 1 Tryz.underlying36 hi T F _ _ _ E.length rfl rfl ?b1 ?b2 ?b3 ?b4 ?_))
  case b1=>rfl
  case b2=>first|omega|(rw [U];omega)
  case b3=>unfold maxLen;omega
  case b4=>exact jH _
  intro w1 p f;have A:Aa w w1:=(jD _).grown f (fun g X=>by cases X);have v:FC w.heap.size w1 (.slice (some ⟨w.heap.size,0,none⟩) 0 E.length) []:=p;have k7:=A.cell h7;clear f p;go_wp2;go_loopg [3,23] E.length (fun r vL n wr=>Aa w wr/\∃(k:Nat),r=E.length - k/\k<=E.length/\n= .int .i64 k/\vL= .slice (some ⟨w.heap.size,0,none⟩) k E.length/\FC w.heap.size wr vL (t k))
  case atStart=>exact ⟨A,0,jo,jo,rfl,rfl,by rw [z];exact v⟩
  case round=>
   obtain ⟨J,k,hr,hk,rfl,rfl,hL⟩:=hrel;have D:=jp hL;have ad:=J.size;clear hL v A k7;by_cases K:k<E.length
   .obtain ⟨g,rfl,c0,c1⟩:=a k K;have ae:=J.cell c0;have af:=J.cell c1;have HS:=jp (o k K);have C:=d k hk;clear a o d z c0 c1;generalize t k=L at *;have ac:L.length<=65536:=jo
    have Y:=jp C;have M:wr.ownsRow w.heap.size 9 1 (.slice (some ⟨w.heap.size,0,none⟩) k E.length) k (L.map Value.string):=by have:=D.out;unfold FC at this;rw [C] at this;exact this
    clear D C;have D:=jp M;clear M;generalize E[k].1=ep at *;generalize E[k].2=eo at *;have l:=l eo;generalize A7 B eo=nm at *;go_wp2_with fail;refine (l _ jq).mono ?_;rintro e w2 ⟨rfl,N⟩;have O:Aa wr w2:=(Aa.step_alloc (jD wr) _).trans N;have P:=jp (BG D.out O);have Q:=J.trans O;have ag:=Q.size;clear D N l;go_wp2_with (first|(at_builtin;refine wpList_append_fits _ rfl _ _ 36 rfl w.heap.size 9 i0 1 Tryz.underlying36 hi F w.heap.size k E.length (L.map Value.string) rfl ?p1 ⟨w2.heap.size,0,none⟩ 1 1 [.string nm] rfl rfl ?d1 ?d2 ?d3 ?_))
    case p1=>exact World.ownsRow.alloc P.out _
    try (case d1=>exact Fz _ _ _ _ js)
    case d2=>first|rfl|(intro u hu;simp at hu;subst hu;rfl)
    case d3=>omega
    intro w3 s i;have Z:Aa w w3:=(Q.step_alloc _).grown i (fun g X=>(World.ownsRow.lt P.out g X).1);have H3:=jp (FC.snoc (b:=nm) (L:=L) s (by rw [Y.out]));clear s i;go_wp2;go_roundg (E.length - (k+1))
    case measure=>omega
    case rel=>exact ⟨Z,k+1,rfl,jo,by go_num,rfl,by rw [HS.out];exact H3.out⟩
   .obtain rfl:k=E.length:=jo
    have aa:Hid (W.length=E.length):=by show W.length=_;rw [<-I.out];exact d _ (jH _)
    clear a o d z;go_wp2;go_ret;exact ⟨_,rfl,J,by rw [<-I.out];exact D.out,fun h=>absurd h V.out,fun _=>⟨w.heap.size,by rw [aa.out];rfl⟩⟩
theorem WK (B:List BK):∀u∈AC B,u.oneCell'=true:=by
 intro u a;simp only [AC,jd,ja,List.not_mem_nil,or_false] at a;obtain ⟨b,_,rfl|rfl⟩:=a <;>rfl
theorem Am.src {w:jj} {v:ju} {L:List BK} (h:Am w v L):Fv w v L.length (AC L):=by
 rcases h with ⟨b,c,d⟩|⟨g,cap,f,l,m,i⟩
 .exact Or.inl ⟨b,c,d⟩
 .refine Or.inr ⟨_,_,f,fun j u k=>?_⟩;have a:(⟨g,0,none⟩:Addr).add j=⟨g,j,none⟩:=by unfold Addr.add;split <;>simp_all
  rw [a];exact i j u k
def DW (c:Ac) (a b:ju):Value:= .agg #[.int .i64 c.alg,.int .i64 c.slots,.int .i64 c.points,.int .i64 c.probes,.string c.key,.int .i64 c.formats,a,b]
def MC (w:jj) (c:Ac) (B:List BK) (e:Ending) (w':jj):Prop:=∃a b,e= .returned (DW c a b)/\Aa w w'/\AJ w.heap.size w' a B/\AS w.heap.size w' b (An c B)
theorem YR (w:jj) (e:TypeId) (base n:Nat) (a:n=w.heap.size) (b:base<=n):(w.alloc (.cells #[] e)).ownsRow base e 2 (.slice (some ⟨n,0,none⟩) 0 0) 0 []:=by
 subst a;exact World.ownsRow_lit w #[] 0 b ji rfl
theorem CP {w:jj} {base:Nat} {e:TypeId} {a:Nat} {v:ju} {n:Nat} {c:List Value} (h:w.ownsRow base e a v n c):∃d cap,v= .slice d n cap:=by
 rcases h.2 with ⟨b,f⟩|⟨g,cap,i,b,_⟩
 .exact ⟨none,0,by rw [b,f]⟩
 .exact ⟨_,_,b⟩
def G7 (p:Nat) (alg d b c:Int) (key:jt) (a:Int) (w:jj):Prop:=
 w.cell? ⟨p,0,none⟩=some (.int .i64 alg)/\w.cell? ⟨p,1,none⟩=some (.int .i64 d)/\w.cell? ⟨p,2,none⟩=some (.int .i64 b)/\w.cell? ⟨p,3,none⟩=some (.int .i64 c)/\w.cell? ⟨p,4,none⟩=some (.string key)/\w.cell? ⟨p,5,none⟩=some (.int .i64 a)
def DP (p:Nat) (a b c d f g i k:ju) (w:jj):Prop:=
 (w.cell? ⟨p,0,none⟩=some a/\w.cell? ⟨p,1,none⟩=some b/\w.cell? ⟨p,2,none⟩=some c/\w.cell? ⟨p,3,none⟩=some d/\w.cell? ⟨p,4,none⟩=some f/\w.cell? ⟨p,5,none⟩=some g/\w.cell? ⟨p,6,none⟩=some i/\w.cell? ⟨p,7,none⟩=some k)/\w.frozen? ⟨p,0,none⟩=false/\w.frozen? ⟨p,1,none⟩=false/\w.frozen? ⟨p,2,none⟩=false/\w.frozen? ⟨p,3,none⟩=false/\w.frozen? ⟨p,4,none⟩=false/\w.frozen? ⟨p,5,none⟩=false/\w.frozen? ⟨p,6,none⟩=false/\w.frozen? ⟨p,7,none⟩=false
theorem DP.new (w:jj) (a b c d f g i k:ju) (t:TypeId):DP w.heap.size a b c d f g i k (w.alloc (.cells #[a,b,c,d,f,g,i,k] t)):=
 ⟨⟨js,js,js,js,js,js,js,js⟩,js,js,js,js,js,js,js,js⟩
theorem DP.later {p:Nat} {a b c d f g i l:ju} {w m:jj} (h:DP p a b c d f g i l w) (k:Aa w m):DP p a b c d f g i l m:=by
 obtain ⟨⟨n,o,q,r,s,t,u,v⟩,x,y,z,A,B,C,D,E⟩:=h;exact ⟨⟨k.cell n,k.cell o,k.cell q,k.cell r,k.cell s,k.cell t,k.cell u,k.cell v⟩,k.frozen n x,k.frozen o y,k.frozen q z,k.frozen r A,k.frozen s B,k.frozen t C,k.frozen u D,k.frozen v E⟩
theorem DP.other {p:Nat} {b c d f g i k l:ju} {w:jj} (h:DP p b c d f g i k l w) {q:Addr} (u:ju) (a:q.block≠p):DP p b c d f g i k l (w.setCell q u):=by
 obtain ⟨⟨m,n,o,r,s,t,v,x⟩,y,z,A,B,C,D,E,F⟩:=h;exact ⟨⟨by rw [Ad (Or.inl a)];exact m,by rw [Ad (Or.inl a)];exact n,by rw [Ad (Or.inl a)];exact o,by rw [Ad (Or.inl a)];exact r,by rw [Ad (Or.inl a)];exact s,by rw [Ad (Or.inl a)];exact t,by rw [Ad (Or.inl a)];exact v,by rw [Ad (Or.inl a)];exact x⟩,by rw [Ag];exact y,by rw [Ag];exact z,by rw [Ag];exact A,by rw [Ag];exact B,by rw [Ag];exact C,by rw [Ag];exact D,by rw [Ag];exact E,by rw [Ag];exact F⟩
theorem DP.set6 {p:Nat} {a b c d f g k i:ju} {w:jj} (h:DP p a b c d f g k i w) (u:ju):DP p a b c d f g u i (w.setCell ⟨p,6,none⟩ u):=by
 obtain ⟨⟨l,m,n,o,q,r,s,t⟩,v,x,y,z,A,B,C,D⟩:=h;exact ⟨⟨by rw [Ad js];exact l,by rw [Ad js];exact m,by rw [Ad js];exact n,by rw [Ad js];exact o,by rw [Ad js];exact q,by rw [Ad js];exact r,Bc s,by rw [Ad js];exact t⟩,by rw [Ag];exact v,by rw [Ag];exact x,by rw [Ag];exact y,by rw [Ag];exact z,by rw [Ag];exact A,by rw [Ag];exact B,by rw [Ag];exact C,by rw [Ag];exact D⟩
theorem G7.later {p:Nat} {alg d b c:Int} {key:jt} {a:Int} {w f:jj} (h:G7 p alg d b c key a w) (k:Aa w f):G7 p alg d b c key a f:=
 ⟨k.cell h.1,k.cell h.2.1,k.cell h.2.2.1,k.cell h.2.2.2.1,k.cell h.2.2.2.2.1,k.cell h.2.2.2.2.2⟩
theorem G7.other {p:Nat} {alg d b c:Int} {key:jt} {a:Int} {w:jj} (h:G7 p alg d b c key a w) {q:Addr} (u:ju) (f:q.block≠p):G7 p alg d b c key a (w.setCell q u):=by
 obtain ⟨g,i,k,l,m,n⟩:=h;exact ⟨by rw [Ad (Or.inl f)];exact g,by rw [Ad (Or.inl f)];exact i,by rw [Ad (Or.inl f)];exact k,by rw [Ad (Or.inl f)];exact l,by rw [Ad (Or.inl f)];exact m,by rw [Ad (Or.inl f)];exact n⟩
def MR (w:jj) (n:Int) (e:Ending) (w':jj):Prop:=e= .returned (.int .i64 n)/\Aa w w'
theorem Ng (d a c:Int) (key:jt) (b:Int) (w:jj):
  Calls Tryz.prog 89 #[.agg #[.int .i64 2,.int .i64 d,.int .i64 a,.int .i64 c,.string key,.int .i64 b]] w (MR w a):=by
 go_enter Tryz.func89,Tryz.ntmps89;go_wp2;go_ret;exact ⟨rfl,jq⟩
theorem N6 (alg d b c:Int) (key:jt) (a:Int) (w:jj) (h:(alg==2)=false):
  Calls Tryz.prog 89 #[.agg #[.int .i64 alg,.int .i64 d,.int .i64 b,.int .i64 c,.string key,.int .i64 a]] w (MR w 1):=by
 go_enter Tryz.func89,Tryz.ntmps89;go_wp2;go_ret;exact ⟨rfl,jq⟩
theorem UT (c:Ac) (B:List BK) (v:ju) (w:jj) (hP:Am w v B) (hB:AL B) (hc:c.OK):
  Calls Tryz.prog 48 #[.agg c.cells,v] w (MC w c B):=by
 obtain ⟨i0,hi,a6,a7,a8⟩:=info_parts Tryz.infoBK;have N:=fun R (h:Aa w R)=>Mx B v R (hP.later h) hB
 have D:=fun R (h:Aa w R)=>Up c B v R (hP.later h) hB hc
 have F:=fun R (h:Aa w R)=>Yv c B v R (hP.later h) hB hc
 have al:c.key.size=16:=hc.2.2.2.2.2.2.2.2.2.1;have bc:1<=c.points:=hc.2.2.2.2.2.1;have bd:c.points<=3:=hc.2.2.2.2.2.2.1;have G:=fun R (h:Aa w R)=>MV c.key 114 c.points B v R (hP.later h) hB al jo jo
 have H:=fun R (h:Aa w R)=>MV c.key 109 1 B v R (hP.later h) hB al jo jo
 have h8:=hB.1;obtain ⟨E,hE⟩:∃E,E=An c B:=⟨_,rfl⟩;unfold MC;rw [<-hE];rw [An] at hE;generalize As B=T at *;obtain ⟨E1,ap⟩:∃E1,E1=BF (F3 c B):=⟨_,rfl⟩;obtain ⟨E2,aq⟩:∃E2,E2=Dk c.key 114 c.points B:=⟨_,rfl⟩;obtain ⟨E3,ar⟩:∃E3,E3=BF ((List.range c.slots.toNat).map (CS c.key B)):=⟨_,rfl⟩;obtain ⟨E4,r⟩:∃E4,E4=Dk c.key 109 1 B:=⟨_,rfl⟩;rw [<-ap] at D;rw [<-aq] at G;rw [<-ar] at F;rw [<-r] at H;rw [show (F3 c B).map (fun o=>((0:Int),o))=E1 from ap.symm,<-aq,show (List.range c.slots.toNat).map (fun s=>((0:Int),CS c.key B s))=E3 from by rw [ar,BF,List.map_map];rfl,<-r] at hE;clear ap aq ar r;have HE:=jp hE;have bb:=hc.1;have a9:=hc.2.1;clear hE hc;obtain ⟨alg,l,d,f,key,b⟩:=c;simp only [Ac.cells,DW] at *;go_enter Tryz.func48,Tryz.ntmps48;go_wp2_with (first|(at_builtin;refine Fn _ rfl _ _ 45 rfl (w.heap.size+3) 57 i0 (.agg #[.string ByteArray.empty,.int .i64 0]) 2 24 Tryz.underlying45 hi a6 a7 a8 rfl ji _ 0 [] rfl ?o1 _ B.length (AC B) rfl ?o2 ?c1 ?c2 ?c3 ?c4 ?c5 ?_))
 case o1=>exact YR _ _ _ _ js jo
 case o2=>exact (hP.later jq).src
 case c1=>exact Jn B
 case c2=>exact WK B
 case c3=>unfold maxLen;omega
 case c4=>omega
 case c5=>simp
 intro vP w1 ac Z;obtain ⟨wa,ad⟩:∃wa,wa=w.alloc (.cells #[.int .i64 alg,.int .i64 l,.int .i64 d,.int .i64 f,.string key,.int .i64 b] 30):=⟨_,rfl⟩;obtain ⟨wr,ae⟩:∃wr,wr=wa.alloc (.cells #[.int .i64 0,.int .i64 0,.int .i64 0,.int .i64 0,.string {data:=#[]},.int .i64 0,.slice none 0 0,.slice none 0 0] 48):=⟨_,rfl⟩;obtain ⟨wm,af⟩:∃wm,wm=wr.alloc (.cells #[.int .i64 alg,.int .i64 l,.int .i64 d,.int .i64 f,.string key,.int .i64 b,.slice none 0 0,.slice none 0 0] 48):=⟨_,rfl⟩;have sa:wa.heap.size=w.heap.size+1:=by rw [ad];simp
 have sr:wr.heap.size=w.heap.size+1+1:=by rw [ae];simp [sa]
 have sm:wm.heap.size=w.heap.size+1+1+1:=by rw [af];simp [sr]
 have ba:Aa w wa:=by rw [ad];exact (jD w).step_alloc _
 have br:Aa wa wr:=by rw [ae];exact (jD _).step_alloc _
 have bm:Aa wr wm:=by rw [af];exact (jD _).step_alloc _
 have ay:Aa w wm:=ba.trans (br.trans bm)
 have aa:Aa wm w1:=by
  rw [af,ae,ad];refine Aa.grown (Aa.step_alloc (jD _) _) Z (fun g hg=>?_);simp [Value.ownBlock] at hg;simp;omega
 have bp:Aa wa w1:=br.trans (bm.trans aa);have bq:Aa wr w1:=bm.trans aa
 have am:G7 w.heap.size alg l d f key b wa:=by
  rw [ad];exact ⟨js,js,js,js,js,js⟩
 have az:DP (w.heap.size+1) (.int .i64 0) (.int .i64 0) (.int .i64 0) (.int .i64 0) (.string {data:=#[]}) (.int .i64 0) (.slice none 0 0) (.slice none 0 0) w1:=by
  have:=DP.new wa (.int .i64 0) (.int .i64 0) (.int .i64 0) (.int .i64 0) (.string {data:=#[]}) (.int .i64 0) (.slice none 0 0) (.slice none 0 0) 48;rw [<-ae,sa] at this;exact this.later bq
 have au:DP (w.heap.size+1+1) (.int .i64 alg) (.int .i64 l) (.int .i64 d) (.int .i64 f) (.string key) (.int .i64 b) (.slice none 0 0) (.slice none 0 0) w1:=by
  have:=DP.new wr (.int .i64 alg) (.int .i64 l) (.int .i64 d) (.int .i64 f) (.string key) (.int .i64 b) (.slice none 0 0) (.slice none 0 0) 48;rw [<-af,sr] at this;exact this.later aa
 have a0:=am.later bp;have ag:AJ (w.heap.size+3) w1 vP B:=by unfold AJ;simpa using ac
 have an:Aa w w1:=ay.trans aa;have a1:=aa.size;clear ac Z ad ae af sa sr ba br bm ay aa bp bq am;obtain ⟨aP,z,rfl⟩:=CP ag;obtain ⟨⟨t0,t1,t2,t3,t4,t5,t6,t7⟩,g0,g1,g2,g3,g4,g5,g6,g7⟩:=id au;have a2:=au.set6 (.slice aP B.length z);have a3:=az.other (q:=⟨w.heap.size+1+1,6,none⟩) (.slice aP B.length z) js;have a4:=a0.other (q:=⟨w.heap.size+1+1,6,none⟩) (.slice aP B.length z) jv;have ah:AJ (w.heap.size+3) _ _ B:=ownsRow_setCell_below ag (a:=⟨w.heap.size+1+1,6,none⟩) js (.slice aP B.length z);have ai:=an.step_set (p:=⟨w.heap.size+1+1,6,none⟩) jx (.slice aP B.length z);go_wp2_with fail;refine (N _ ai).mono ?_;rintro e w3 ⟨rfl,n⟩;have L:=a2.later n;have M:=a3.later n;have ab:=a4.later n;have t:=jp (BG ah n);have x:=ai.trans n;have be:=x.size;clear au az a0 a2 a3 a4 ag ah an ai n a1 t0 t1 t2 t3 t4 t5 t6 t7 g0 g1 g2 g3 g4 g5 g6 g7;obtain ⟨⟨t0,t1,t2,t3,t4,t5,t6,t7⟩,g0,g1,g2,g3,g4,g5,g6,g7⟩:=id L;obtain ⟨⟨r0,r1,r2,r3,r4,r5,r6,r7⟩,f0,f1,f2,f3,f4,f5,f6,f7⟩:=id M;obtain ⟨c0,c1,c2,c3,c4,c5⟩:=id ab;by_cases a5:T<1
 .have O:Hid (E=[]):=by show E=[];rw [HE.out,if_pos a5]
  clear HE D F G H N L M ab;go_wp2;refine bodyPost_ret (v:= .agg #[.int .i64 alg,.int .i64 l,.int .i64 d,.int .i64 f,.string key,.int .i64 b,.slice aP B.length z,.slice none 0 0]) (by simp [results,Tryz.results48,go_sem, *]) rfl ⟨_,_,rfl,?_,?_,?_⟩
  .exact (((((((x.step_set js _).step_set js _).step_set js _).step_set js _).step_set js _).step_set js _).step_set js _).step_set js _
  .exact World.ownsRow.mono (ownsRow_setCell_below (ownsRow_setCell_below (ownsRow_setCell_below (ownsRow_setCell_below (ownsRow_setCell_below (ownsRow_setCell_below (ownsRow_setCell_below (ownsRow_setCell_below t.out js _) js _) js _) js _) js _) js _) js _) js _) jo
  .rw [O.out];exact World.ownsRow_nil _ _ _ _
 .rw [if_neg a5] at HE;have ao:w.heap.size+1+1<w3.heap.size:=jF t0;rcases (show alg=1\/alg=2\/alg=3\/alg=4 by omega) with rfl|rfl|rfl|rfl
  .have O:Hid (E=E1):=by show E=E1;rw [HE.out];simp
   have aj:=D _ x jo;clear HE D F G H N;go_wp2_with fail;refine aj.mono ?_;rintro e w4 ⟨vE,rfl,k,r⟩;obtain ⟨P,i,rfl⟩:=CP r;have W:=L.later k;have X:=M.later k;have m:=BG t.out k;have y:=x.trans k;have A:=jp (ownsRow_setCell_below m (a:=⟨w.heap.size+1+1,7,none⟩) js (.slice P E1.length i));have Y:=jp (ownsRow_setCell_below r (a:=⟨w.heap.size+1+1,7,none⟩) jv (.slice P E1.length i));have I:=y.step_set (p:=⟨w.heap.size+1+1,7,none⟩) jv (.slice P E1.length i);clear t0 t1 t2 t3 t4 t5 t6 t7 g0 g1 g2 g3 g4 g5 g6 g7 r0 r1 r2 r3 r4 r5 r6 r7 f0 f1 f2 f3 f4 f5 f6 f7 L M ab c0 c1 c2 c3 c4 c5 t x;obtain ⟨⟨t0,t1,t2,t3,t4,t5,t6,t7⟩,g0,g1,g2,g3,g4,g5,g6,g7⟩:=W;obtain ⟨⟨r0,r1,r2,r3,r4,r5,r6,r7⟩,f0,f1,f2,f3,f4,f5,f6,f7⟩:=X;have av:=k.size;clear m y r k aj;go_wp2;refine bodyPost_ret (v:= .agg #[.int .i64 1,.int .i64 l,.int .i64 d,.int .i64 f,.string key,.int .i64 b,.slice aP B.length z,.slice P E1.length i]) (by simp [results,Tryz.results48,go_sem, *]) rfl ⟨_,_,rfl,?_,?_,?_⟩
   .exact (((((((I.step_set js _).step_set js _).step_set js _).step_set js _).step_set js _).step_set js _).step_set js _).step_set js _
   .exact World.ownsRow.mono ((ownsRow_setCell_below (ownsRow_setCell_below (ownsRow_setCell_below (ownsRow_setCell_below (ownsRow_setCell_below (ownsRow_setCell_below (ownsRow_setCell_below (ownsRow_setCell_below A.out js _) js _) js _) js _) js _) js _) js _) js _)) jo
   .rw [O.out];exact World.ownsRow.mono (ownsRow_setCell_below (ownsRow_setCell_below (ownsRow_setCell_below (ownsRow_setCell_below (ownsRow_setCell_below (ownsRow_setCell_below (ownsRow_setCell_below (ownsRow_setCell_below Y.out jv _) jv _) jv _) jv _) jv _) jv _) jv _) jv _) jo
  .have O:Hid (E=E2):=by show E=E2;rw [HE.out];simp
   have ak:=fun R=>Ng l d f key b R
   clear HE D F H N;go_wp2_with fail
   go_region_with (first
     | (go_at_call 89
        refine (ak _).mono ?_
        rintro e Q ⟨rfl, J⟩
        have n : Aa w3 Q := by first | exact J | exact (jB (jD w3)).trans J
        have aw := n.cell c4
        have u := x.trans n
        have S := L.later n
        have U := M.later n
        have C := jp (BG t.out n)
        have ax : w.heap.size + 1 + 1 < Q.heap.size := jN ao n.size
        clear J ak)
     | (go_at_call 88
        refine (G _ (by first | exact u | exact u.step_drew)).mono ?_
        rintro e w4 ⟨vE, rfl, K, V⟩
        have k : Aa Q w4 := by first | exact K | exact (jB (jD Q)).trans K
        have r := World.ownsRow.mono V (base' := w.heap.size + 1 + 1 + 1) (by first | omega | (simp; omega))
        obtain ⟨P, i, rfl⟩ := CP r
        have W := S.later k
        have X := U.later k
        have m := BG C.out k
        have y := u.trans k
        have A := jp (ownsRow_setCell_below m (a := ⟨w.heap.size + 1 + 1, 7, none⟩) js (.slice P E2.length i))
        have Y := jp (ownsRow_setCell_below r (a := ⟨w.heap.size + 1 + 1, 7, none⟩) (by simp only; omega) (.slice P E2.length i))
        have I := y.step_set (p := ⟨w.heap.size + 1 + 1, 7, none⟩) (by simp only; omega) (.slice P E2.length i)
        clear t0 t1 t2 t3 t4 t5 t6 t7 g0 g1 g2 g3 g4 g5 g6 g7 r0 r1 r2 r3 r4 r5 r6 r7 f0 f1 f2 f3 f4 f5 f6 f7 L M ab c0 c1 c2 c3 c4 c5 t x S U C u aw
        obtain ⟨⟨t0, t1, t2, t3, t4, t5, t6, t7⟩, g0, g1, g2, g3, g4, g5, g6, g7⟩ := W
        obtain ⟨⟨r0, r1, r2, r3, r4, r5, r6, r7⟩, f0, f1, f2, f3, f4, f5, f6, f7⟩ := X
        have av := k.size
        clear m y r V k K G))
   all_goals
    go_wp2;refine bodyPost_ret (v:= .agg #[.int .i64 2,.int .i64 l,.int .i64 d,.int .i64 f,.string key,.int .i64 b,.slice aP B.length z,.slice P E2.length i]) (by simp [results,Tryz.results48,go_sem, *]) rfl ⟨_,_,rfl,?_,?_,?_⟩
    .exact (((((((I.step_set js _).step_set js _).step_set js _).step_set js _).step_set js _).step_set js _).step_set js _).step_set js _
    .exact World.ownsRow.mono ((ownsRow_setCell_below (ownsRow_setCell_below (ownsRow_setCell_below (ownsRow_setCell_below (ownsRow_setCell_below (ownsRow_setCell_below (ownsRow_setCell_below (ownsRow_setCell_below A.out js _) js _) js _) js _) js _) js _) js _) js _)) jo
    .rw [O.out];exact World.ownsRow.mono (ownsRow_setCell_below (ownsRow_setCell_below (ownsRow_setCell_below (ownsRow_setCell_below (ownsRow_setCell_below (ownsRow_setCell_below (ownsRow_setCell_below (ownsRow_setCell_below Y.out jv _) jv _) jv _) jv _) jv _) jv _) jv _) jv _) jo
  .have O:Hid (E=E3):=by show E=E3;rw [HE.out];simp
   have aj:=F _ x;clear HE D F G H N;go_wp2_with fail;refine aj.mono ?_;rintro e w4 ⟨vE,rfl,k,r⟩;obtain ⟨P,i,rfl⟩:=CP r;have W:=L.later k;have X:=M.later k;have m:=BG t.out k;have y:=x.trans k;have A:=jp (ownsRow_setCell_below m (a:=⟨w.heap.size+1+1,7,none⟩) js (.slice P E3.length i));have Y:=jp (ownsRow_setCell_below r (a:=⟨w.heap.size+1+1,7,none⟩) jv (.slice P E3.length i));have I:=y.step_set (p:=⟨w.heap.size+1+1,7,none⟩) jv (.slice P E3.length i);clear t0 t1 t2 t3 t4 t5 t6 t7 g0 g1 g2 g3 g4 g5 g6 g7 r0 r1 r2 r3 r4 r5 r6 r7 f0 f1 f2 f3 f4 f5 f6 f7 L M ab c0 c1 c2 c3 c4 c5 t x;obtain ⟨⟨t0,t1,t2,t3,t4,t5,t6,t7⟩,g0,g1,g2,g3,g4,g5,g6,g7⟩:=W;obtain ⟨⟨r0,r1,r2,r3,r4,r5,r6,r7⟩,f0,f1,f2,f3,f4,f5,f6,f7⟩:=X;have av:=k.size;clear m y r k aj;go_wp2;refine bodyPost_ret (v:= .agg #[.int .i64 3,.int .i64 l,.int .i64 d,.int .i64 f,.string key,.int .i64 b,.slice aP B.length z,.slice P E3.length i]) (by simp [results,Tryz.results48,go_sem, *]) rfl ⟨_,_,rfl,?_,?_,?_⟩
   .exact (((((((I.step_set js _).step_set js _).step_set js _).step_set js _).step_set js _).step_set js _).step_set js _).step_set js _
   .exact World.ownsRow.mono ((ownsRow_setCell_below (ownsRow_setCell_below (ownsRow_setCell_below (ownsRow_setCell_below (ownsRow_setCell_below (ownsRow_setCell_below (ownsRow_setCell_below (ownsRow_setCell_below A.out js _) js _) js _) js _) js _) js _) js _) js _)) jo
   .rw [O.out];exact World.ownsRow.mono (ownsRow_setCell_below (ownsRow_setCell_below (ownsRow_setCell_below (ownsRow_setCell_below (ownsRow_setCell_below (ownsRow_setCell_below (ownsRow_setCell_below (ownsRow_setCell_below Y.out jv _) jv _) jv _) jv _) jv _) jv _) jv _) jv _) jo
  .have O:Hid (E=E4):=by show E=E4;rw [HE.out];simp
   have ak:=fun R=>N6 4 l d f key b R ji
   clear HE D F G N;go_wp2_with fail
   go_region_with (first
     | (go_at_call 89
        refine (ak _).mono ?_
        rintro e Q ⟨rfl, J⟩
        have n : Aa w3 Q := by first | exact J | exact (jB (jD w3)).trans J
        have aw := n.cell c4
        have u := x.trans n
        have S := L.later n
        have U := M.later n
        have C := jp (BG t.out n)
        have ax : w.heap.size + 1 + 1 < Q.heap.size := jN ao n.size
        clear J ak)
     | (go_at_call 88
        refine (H _ (by first | exact u | exact u.step_drew)).mono ?_
        rintro e w4 ⟨vE, rfl, K, V⟩
        have k : Aa Q w4 := by first | exact K | exact (jB (jD Q)).trans K
        have r := World.ownsRow.mono V (base' := w.heap.size + 1 + 1 + 1) (by first | omega | (simp; omega))
        obtain ⟨P, i, rfl⟩ := CP r
        have W := S.later k
        have X := U.later k
        have m := BG C.out k
        have y := u.trans k
        have A := jp (ownsRow_setCell_below m (a := ⟨w.heap.size + 1 + 1, 7, none⟩) js (.slice P E4.length i))
        have Y := jp (ownsRow_setCell_below r (a := ⟨w.heap.size + 1 + 1, 7, none⟩) (by simp only; omega) (.slice P E4.length i))
        have I := y.step_set (p := ⟨w.heap.size + 1 + 1, 7, none⟩) (by simp only; omega) (.slice P E4.length i)
        clear t0 t1 t2 t3 t4 t5 t6 t7 g0 g1 g2 g3 g4 g5 g6 g7 r0 r1 r2 r3 r4 r5 r6 r7 f0 f1 f2 f3 f4 f5 f6 f7 L M ab c0 c1 c2 c3 c4 c5 t x S U C u aw
        obtain ⟨⟨t0, t1, t2, t3, t4, t5, t6, t7⟩, g0, g1, g2, g3, g4, g5, g6, g7⟩ := W
        obtain ⟨⟨r0, r1, r2, r3, r4, r5, r6, r7⟩, f0, f1, f2, f3, f4, f5, f6, f7⟩ := X
        have av := k.size
        clear m y r V k K H))
   all_goals
    go_wp2;refine bodyPost_ret (v:= .agg #[.int .i64 4,.int .i64 l,.int .i64 d,.int .i64 f,.string key,.int .i64 b,.slice aP B.length z,.slice P E4.length i]) (by simp [results,Tryz.results48,go_sem, *]) rfl ⟨_,_,rfl,?_,?_,?_⟩
    .exact (((((((I.step_set js _).step_set js _).step_set js _).step_set js _).step_set js _).step_set js _).step_set js _).step_set js _
    .exact World.ownsRow.mono ((ownsRow_setCell_below (ownsRow_setCell_below (ownsRow_setCell_below (ownsRow_setCell_below (ownsRow_setCell_below (ownsRow_setCell_below (ownsRow_setCell_below (ownsRow_setCell_below A.out js _) js _) js _) js _) js _) js _) js _) js _)) jo
    .rw [O.out];exact World.ownsRow.mono (ownsRow_setCell_below (ownsRow_setCell_below (ownsRow_setCell_below (ownsRow_setCell_below (ownsRow_setCell_below (ownsRow_setCell_below (ownsRow_setCell_below (ownsRow_setCell_below Y.out jv _) jv _) jv _) jv _) jv _) jv _) jv _) jv _) jo
end Go.Proofs.YtpapdkhjdelfcaaGreat
