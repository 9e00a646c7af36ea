import Derived.Test.YtpapdkhjdelfcaaGreatMAD
import Derived.Laws.AppendOwnNone
import Derived.Deep.RegionHeld3
namespace Go.Proofs.YtpapdkhjdelfcaaGreat
open Go.RowKit
set_option maxRecDepth 100000
set_option maxHeartbeats 4000000
theorem TH (w:jj) (a b:Nat):IM (w.alloc (.cells #[.int .i64 (a:Int),.int .i64 (b:Int)] 3)) (.slice (some ⟨w.heap.size,0,none⟩) 2 2) [a,b]:=by
 refine Or.inr ⟨w.heap.size,2,rfl,js,js,fun j u c=>?_⟩;have d:=(List.getElem?_eq_some_iff.1 c).1;simp at d;rcases (show j=0\/j=1 by omega) with rfl|rfl
 .simp at c;subst c;simp
 .simp at c;subst c;simp
theorem Jl (w:jj) (a:Nat):IM (w.alloc (.cells #[.int .i64 (a:Int)] 3)) (.slice (some ⟨w.heap.size,0,none⟩) 1 1) [a]:=by
 refine Or.inr ⟨w.heap.size,1,rfl,js,js,fun j u b=>?_⟩;have c:=(List.getElem?_eq_some_iff.1 b).1;simp at c;rcases (show j=0 by omega) with rfl;simp at b;subst b;simp
theorem WM (key:jt) (s:Nat) (B:List BK) (v:ju) (w:jj) (hP:Am w v B) (hB:AL B) (hk:key.size=16):
  Calls Tryz.prog 144 #[.string key,.int .i64 s,v] w (J0 w (CS key B s)):=by
 obtain ⟨h8,u⟩:=hB;obtain ⟨ao,cap,rfl,b⟩:=hP.open;obtain ⟨X,G⟩:∃X,X=CS key B s:=⟨_,rfl⟩;rw [<-G];rw [CS] at G;have HX:=jp G;clear G
 have c:∀i (h:i<B.length),AV key s B (i+1)=A6 key s i B[i].1 (AV key s B i) B[i].2.toNat:=fun i h=>by
  rw [AV,jG h]
 have U:AV key s B 0=(-1,0):=rfl;generalize AV key s B=J at *;go_enter Tryz.func144,Tryz.ntmps144;go_wp2;go_loopg [7,8,15] B.length (fun r K L n wr=>Aa w wr/\∃k:Nat,r=B.length - k/\k<=B.length/\n= .int .i64 k/\K= .int .i64 (J k).1/\L= .int .u64 (J k).2)
 case atStart=>exact ⟨jD _,0,jo,jo,rfl,by rw [U],by rw [U]⟩
 case round=>
  obtain ⟨y,k,hr,aa,rfl,rfl,rfl⟩:=hrel;by_cases m:k<B.length
  .obtain ⟨g,rfl,V,W⟩:=b k m;have z:=y.cell V;have A:=y.cell W;have H:=jp (c k m);obtain ⟨C,M,N,O⟩:=u _ (jJ m);clear b V W c;generalize B[k]=bk at *;obtain ⟨a,Y⟩:=bk;simp only at z A H M N O C;obtain ⟨n,D⟩:∃n:Nat,Y=(n:Int):=⟨Y.toNat,jo⟩;subst D;rw [Int.toNat_natCast] at H;generalize J k=o at *;go_wp2;have E:A6 key s k a o 0=o:=rfl;have p:∀j,A6 key s k a o (j+1)=if (A6 key s k a o j).1<0\/(A6 key s k a o j).2<Al key 104 [s,j] a then ((k:Int),Al key 104 [s,j] a) else A6 key s k a o j:=fun _=>rfl
   generalize A6 key s k a o=P at *;obtain ⟨q,d⟩:∃q,q=wr.alloc (.cells #[.string a,.int .i64 (n:Int)] 57):=⟨_,rfl⟩;have d0:q.cell? ⟨wr.heap.size,0,none⟩=some (.string a):=by rw [d];simp
   have d1:q.cell? ⟨wr.heap.size,1,none⟩=some (.int .i64 (n:Int)):=by rw [d];simp
   have Q:Aa w q:=by rw [d];exact y.step_alloc _
   rw [<-d];generalize wr.heap.size=pb at *;clear d y z A;go_loopg [7,8,11] n (fun r K L vk wr=>Aa q wr/\∃j:Nat,r=n - j/\j<=n/\vk= .int .i64 j/\K= .int .i64 (P j).1/\L= .int .u64 (P j).2)
   case atStart=>exact ⟨jD _,0,jo,jo,rfl,by rw [E],by rw [E]⟩
   case round=>
    obtain ⟨l,j,ab,ac,rfl,rfl,rfl⟩:=hrel;have e0:=l.cell d0;have e1:=l.cell d1;have R:=jF e0;by_cases ad:j<n
    .have f:=jp (p j);have Z:=fun wx=>F5 key 104 [s,j] (.slice (some ⟨wx.heap.size,0,none⟩) 2 2) a _ (TH wx s j) js jo jo
     clear p;generalize Al key 104 [s,j] a=x at *;generalize P j=mj at *;obtain ⟨mb,S⟩:=mj;simp only at f;have hd:decide ((j:Int)<(n:Int))=true:=jL jo;simp only at R;go_wp2_with fail;refine (Z _).mono ?_;rintro e w2 ⟨rfl,F⟩;have t:Aa q w2:=(l.step_alloc _).trans F;clear F Z;by_cases D:mb<0
     .rw [if_pos (Or.inl D)] at f;go_wp2;go_roundg (n - (j+1))
      case measure=>omega
      case rel=>exact ⟨t,j+1,rfl,jo,by go_num,by rw [f.out],by rw [f.out]⟩
     .have ae:decide (mb<0)=false:=jK D;by_cases I:S<x
      .rw [if_pos (Or.inr I)] at f;have T:decide (x>S)=true:=jL I;go_wp2;go_roundg (n - (j+1))
       case measure=>omega
       case rel=>exact ⟨t,j+1,rfl,jo,by go_num,by rw [f.out],by rw [f.out]⟩
      .rw [if_neg (fun h=>h.elim D I)] at f;have T:decide (x>S)=false:=jK I;go_wp2;go_roundg (n - (j+1))
       case measure=>omega
       case rel=>exact ⟨t,j+1,rfl,jo,by go_num,by rw [f.out],by rw [f.out]⟩
    .obtain rfl:j=n:=jo
     clear p;go_wp2;go_roundg (B.length - (k+1))
     case measure=>omega
     case rel=>exact ⟨Q.trans l,k+1,rfl,jo,by go_num,by rw [H.out],by rw [H.out]⟩
  .obtain rfl:k=B.length:=jo
   clear b c;go_wp2;go_ret;exact ⟨BO HX.out.symm,y⟩
theorem Yv (c:Ac) (B:List BK) (v:ju) (w:jj) (Z:Am w v B) (U:AL B) (J:c.OK):
  Calls Tryz.prog 90 #[.agg c.cells,v] w (Jp w (BF ((List.range c.slots.toNat).map (CS c.key B)))):=by
 obtain ⟨i0,hi,K,N,O⟩:=info_parts Tryz.infoEI;obtain ⟨aa,ab,E⟩:3<=c.slots/\c.slots<=211/\c.key.size=16:=⟨J.2.2.1,J.2.2.2.1,J.2.2.2.2.2.2.2.2.2.1⟩;have l:=fun s P hx=>WM c.key s B v P hx U E
 have F:∀s, -1<=CS c.key B s\/True:=fun _=>Or.inr trivial
 obtain ⟨M,V⟩:∃M:Nat,c.slots=(M:Int):=⟨c.slots.toNat,jo⟩
 have a:∀k,BF ((List.range (k+1)).map (CS c.key B))=BF ((List.range k).map (CS c.key B))++[(0,CS c.key B k)]:=fun k=>by
  rw [List.range_succ,List.map_append,BF,List.map_append];rfl
 have t:∀k,(BF ((List.range k).map (CS c.key B))).length=k:=fun k=>by rw [Gp];simp
 have W:BF ((List.range 0).map (CS c.key B))=[]:=rfl;obtain ⟨Lk,f⟩:∃Lk:Nat->List EI,Lk=fun k=>BF ((List.range k).map (CS c.key B)):=⟨_,rfl⟩
 have y:∀k,Lk (k+1)=Lk k++[(0,CS c.key B k)]:=fun k=>by rw [f];exact a k
 have z:∀k,(Lk k).length=k:=fun k=>by rw [f];exact t k
 have A:Lk 0=[]:=by rw [f];exact W
 rw [show BF ((List.range c.slots.toNat).map (CS c.key B))=Lk M from by rw [f,V];rfl];generalize CS c.key B=wf at *;clear f a t W F;obtain ⟨alg,Q,p,q,key,m⟩:=c;simp only [Ac.cells] at *;subst V;clear J U;go_enter Tryz.func90,Tryz.ntmps90;go_wp2;obtain ⟨u,i⟩:∃u,u=w.alloc (.cells #[.int .i64 alg,.int .i64 (M:Int),.int .i64 p,.int .i64 q,.string key,.int .i64 m] 30):=⟨_,rfl⟩;have m1:u.cell? ⟨w.heap.size,1,none⟩=some (.int .i64 (M:Int)):=by rw [i];simp
 have m4:u.cell? ⟨w.heap.size,4,none⟩=some (.string key):=by rw [i];simp
 have G:Aa w u:=by rw [i];exact (jD w).step_alloc _
 have ac:u.heap.size=w.heap.size+1:=by rw [i];simp
 rw [<-i];clear i;go_loopg [5,6] M (fun r vL n wr=>Aa u wr/\∃(k:Nat),r=M - k/\k<=M/\n= .int .i64 k/\AS (w.heap.size+1) wr vL (Lk k))
 case atStart=>exact ⟨jD _,0,jo,jo,rfl,by rw [A];exact World.ownsRow_nil _ _ _ _⟩
 case round=>
  obtain ⟨D,k,hr,hk,rfl,X⟩:=hrel;have ad:=D.size;have n1:=D.cell m1;have n4:=D.cell m4;have R:=jp X;clear X;by_cases ae:k<M
  .have S:=z k;have HS:=jp (y k);have Y:=fun P hx=>l k P hx
   clear z y A l;generalize Lk k=L at *;have f:L.length<=300:=jo
   clear S;generalize wf k=x at *;go_wp2_with fail;refine (Y _ (Z.later (G.trans D))).mono ?_;rintro e w1 ⟨rfl,C⟩;have H:=jp (BG R.out C);have I:=D.trans C;have af:=I.size;clear R Y C;go_wp2_with (first|(at_builtin;refine wpList_append_own _ rfl _ _ 46 rfl (w.heap.size+1) 76 i0 (.agg #[.int .u64 0,.int .i64 0]) 2 16 Tryz.underlying46 hi K N O rfl ji _ L.length (Bf L) rfl ?p1 ⟨w1.heap.size,0,none⟩ 1 1 [.int .u64 0,.int .i64 x] rfl rfl ?d1 ?d2 ?d3 ?d4 ?d5 ?_))
   case p1=>exact World.ownsRow.alloc H.out _
   try (case d1=>exact C8 _ _ _ _ _ js)
   case d2=>first|exact ⟨rfl,rfl⟩|exact Df rfl rfl
   case d3=>unfold maxLen;omega
   case d4=>omega
   case d5=>first|omega|(simp;omega)
   intro v2 w2 o d _;have T:Aa u w2:=(I.step_alloc _).grown d (fun g hg=>by have:=(World.ownsRow.lt H.out g hg).1;omega);have H2:=jp (AS.snoc (b:=(0,x)) o rfl);clear o d;go_wp2;go_roundg (M - (k+1))
   case measure=>omega
   case rel=>exact ⟨T,k+1,rfl,jo,by go_num,by rw [HS.out];exact H2.out⟩
  .obtain rfl:k=M:=jo
   clear z y A l;go_wp2;go_ret;exact ⟨_,rfl,G.trans D,World.ownsRow.mono R.out jo⟩
def Fv (w:jj) (x:ju) (m:Nat) (a:List Value):Prop:=
 (x= .slice none 0 0/\m=0/\a=[])\/∃b c,x= .slice (some b) m c/\∀j u,a[j]?=some u->w.cell? (b.add j)=some u
theorem Fv.later {a w:jj} {x:ju} {m:Nat} {b:List Value} (h:Fv a x m b) (k:Aa a w):Fv w x m b:=by
 rcases h with h|⟨d,c,hx,f⟩
 .exact Or.inl h
 .exact Or.inr ⟨d,c,hx,fun j u g=>k.cell (f j u g)⟩
theorem Fn {P:Program} (w:jj) {q:Array Oper} {rest:List Oper} {o:Oper} {a:Act} {Q:Exit->Act->World->Prop} (r:o.guard=none) (s x:Operand) (t:TypeId)
  (G:o.op= .call {callee:= .builtin .append,args:=#[s,x],argTypes:=#[t,t]})
  (base:Nat) (e:TypeId) (i:TypeInfo) (z:ju) (b f:Nat) (H:P.underlying t=some (.slice e)) (I:P.info? e=some i) (L:i.zero=some z)
  (l:i.size=b) (C:i.bytes=f) (D:z.cells.size=b) (E:0<b)
  (v:ju) (n:Nat) (A:List Value) (J:a.eval s=v) (g:w.ownsRow base e b v n A)
  (K:ju) (m:Nat) (d:List Value) (hx:a.eval x=K) (y:Fv w K m d) (M:d.length=m * b) (N:∀u∈d,u.oneCell'=true)
  (F:n+m<=maxLen) (k:(n+m) * f<=140737488355328) (p:base<=w.heap.size)
  (h:∀B w',w'.ownsRow base e b B (n+m) (A++d)->w.grownBy w' v.ownBlock->wpList P q Q rest (a.put o.dst B) w'):wpList P q Q (o::rest) a w:=by
 rcases y with ⟨rfl,rfl,rfl⟩|⟨O,c,rfl,R⟩
 .refine wpList_append_own_none r s x t G base e i b H I v n A J g hx ?_;exact h v w (by simpa using g) (World.grownBy.refl w _)
 .exact wpList_append_own w r s x t G base e i z b f H I L l C D E v n A J g O m c d hx M R N F k p (fun B w' S T _=>h B w' S T)
def Ds (base g cap:Nat) (w:jj) (X:List EI):Prop:=w.ownsRow base 76 2 (sl g X.length cap) X.length (Bf X)
theorem SQ (X:List EI) (k:Nat) (e:EI):Bf (X.set k e)=((Bf X).set (k * 2) (.int .u64 e.1)).set (k * 2+1) (.int .i64 e.2):=by
 induction X generalizing k with
 |nil=>simp [Bf]
 |cons s S ih=>
  cases k with
  |zero=>simp [Bf]
  |succ k=>
   have a:(k+1) * 2=k * 2+1+1:=jo
   have:=ih k;simp only [Bf,List.set_cons_succ,List.flatMap_cons,List.cons_append,List.nil_append,a] at this |-;rw [this]
theorem Ds.set {base g cap:Nat} {w:jj} {X:List EI} (h:Ds base g cap w X) (k:Nat) (a b:Int):Ds base g cap ((w.setCell ⟨g,k * 2,none⟩ (.int .u64 a)).setCell ⟨g,k * 2+1,none⟩ (.int .i64 b)) (X.set k (a,b)):=by
 have c:=(World.ownsRow.stored h (k * 2) (.int .u64 a)).1;have d:=(World.ownsRow.stored c (k * 2+1) (.int .i64 b)).1;unfold Ds;rw [SQ,sl,List.length_set];exact d
theorem Ds.get {base g cap:Nat} {w:jj} {X:List EI} (h:Ds base g cap w X) (j:Nat) (a:j<X.length):w.cell? ⟨g,j * 2,none⟩=some (.int .u64 X[j].1)/\w.cell? ⟨g,j * 2+1,none⟩=some (.int .i64 X[j].2):=by
 have:=JZ X j a;exact ⟨by rw [World.ownsRow.cellAt h (j * 2) jo];exact this.1,by rw [World.ownsRow.cellAt h (j * 2+1) jo];exact this.2⟩
theorem OD (B:List EI):∀u∈Bf B,u.oneCell'=true:=by
 intro u a;simp only [Bf,jd,ja,List.not_mem_nil,or_false] at a;obtain ⟨b,_,rfl|rfl⟩:=a <;>rfl
theorem AR.src {w:jj} {v:ju} {L:List EI} (h:AR w v L):Fv w v L.length (Bf L):=by
 rcases h with ⟨b,c,d⟩|⟨g,cap,f,l,m,i⟩
 .exact Or.inl ⟨b,c,d⟩
 .refine Or.inr ⟨_,_,f,fun j u k=>?_⟩;have a:(⟨g,0,none⟩:Addr).add j=⟨g,j,none⟩:=by unfold Addr.add;split <;>simp_all
  rw [a];exact i j u k
def IA (L:List EI):Prop:=L.Pairwise fun a b=>a.1<=b.1
theorem Mw {e x:EI} {L:List EI}:x∈Ck e L↔x=e\/x∈L:=by
 induction L with
 |nil=>simp [Ck]
 |cons b B ih=>
  simp only [Ck];split
  .simp
  .simp only [ja,ih];constructor
   .rintro (h|h|h)
    .exact Or.inr (Or.inl h)
    .exact Or.inl h
    .exact Or.inr (Or.inr h)
   .rintro (h|h|h)
    .exact Or.inr (Or.inl h)
    .exact Or.inl h
    .exact Or.inr (Or.inr h)
theorem NC (e:EI) (L:List EI):(Ck e L).length=L.length+1:=by
 induction L with
 |nil=>rfl
 |cons b B ih=>simp only [Ck];split <;>simp [ih]
theorem SU {e:EI} {L:List EI} (h:IA L):IA (Ck e L):=by
 induction L with
 |nil=>exact List.pairwise_singleton _ _
 |cons b B ih=>
  obtain ⟨a,c⟩:=List.pairwise_cons.1 h;simp only [Ck];split
  .rename_i d;refine List.pairwise_cons.2 ⟨fun x hx=>?_,h⟩;rcases ja.1 hx with rfl|hx
   .exact Int.le_of_lt d
   .have:=a x hx;omega
  .refine List.pairwise_cons.2 ⟨fun x hx=>?_,ih c⟩;rcases Mw.1 hx with rfl|hx
   .omega
   .exact a x hx
theorem O7 {e:EI} {L:List EI} {i:Nat} (d:i<=L.length) (a:∀x∈L.take i,x.1<=e.1) (c:∀x∈L.drop i,e.1<x.1):Ck e L=L.take i++e::L.drop i:=by
 induction L generalizing i with
 |nil=>simp [Ck]
 |cons b B ih=>
  cases i with
  |zero=>
   have:=c b js;simp [Ck,this]
  |succ i=>
   have:=a b js;simp only [Ck,List.take_succ_cons,List.drop_succ_cons,List.cons_append];rw [if_neg jo,ih (by simpa using d) (fun x hx=>a x (by simp [hx])) (fun x hx=>c x (by simpa using hx))]
theorem TU (L:List EI) (n:Nat) (h:n<=L.length):(BN L n).length=n:=by
 induction n with
 |zero=>rfl
 |succ n ih=>rw [BN,jG jo];simp only;rw [NC,ih jo]
theorem NQ (L:List EI) (n:Nat):IA (BN L n):=by
 induction n with
 |zero=>exact List.Pairwise.nil
 |succ n ih=>
  rw [BN];split
  .exact SU ih
  .exact ih
def Ge (P:List EI) (R:List EI) (i:Nat) (X:List EI):Prop:=∃x,X=P.take i++x::(P.drop i++R)
theorem Ge.before {P R X:List EI} {i j:Nat} (h:Ge P R i X) (a:i<=P.length) (b:j<i) (hx:j<X.length):X[j]=P[j]'jo:=by
 obtain ⟨x,rfl⟩:=h;rw [List.getElem_append_left jx,List.getElem_take]
theorem Ge.step {P R X:List EI} {i:Nat} (h:Ge P R (i+1) X) (a:i<P.length):Ge P R i (X.set (i+1) P[i]):=by
 obtain ⟨x,rfl⟩:=h;refine ⟨P[i],?_⟩;have b:(P.take (i+1)).length=i+1:=jx
 rw [List.set_append_right _ _ jo,b,Nat.sub_self,List.set_cons_zero,jQ a,List.append_assoc,List.drop_eq_getElem_cons (i:=i) a];rfl
theorem Ge.fin {P R X:List EI} {i:Nat} {e:EI} (h:Ge P R i X) (b:i<=P.length):X.set i e=P.take i++e::P.drop i++R:=by
 obtain ⟨x,rfl⟩:=h;have a:(P.take i).length=i:=jx
 rw [List.set_append_right _ _ jo,a,Nat.sub_self,List.set_cons_zero];simp
theorem Uk (L:List EI) (v:ju) (w:jj) (hP:AR w v L) (hB:L.length<=65536):
  Calls Tryz.prog 143 #[v] w (Jp w (BN L L.length)):=by
 obtain ⟨i0,hi,aj,ak,al⟩:=info_parts Tryz.infoEI;go_enter Tryz.func143,Tryz.ntmps143;go_wp2_with (first|(at_builtin;refine Fn _ rfl _ _ 46 rfl w.heap.size 76 i0 (.agg #[.int .u64 0,.int .i64 0]) 2 16 Tryz.underlying46 hi aj ak al rfl ji _ 0 [] rfl ?o1 _ L.length (Bf L) rfl ?o2 ?c1 ?c2 ?c3 ?c4 ?c5 ?_))
 case o1=>exact World.ownsRow_lit w #[] 0 (jH _) ji rfl
 case o2=>exact (hP.later ((jD w).step_alloc _)).src
 case c1=>exact Ps L
 case c2=>exact OD L
 case c3=>unfold maxLen;omega
 case c4=>omega
 case c5=>simp
 intro v2 w2 B q;have J:Aa w w2:=((jD w).step_alloc _).grown q (fun g hg=>by simp [Value.ownBlock] at hg;omega);have d:AS w.heap.size w2 v2 L:=by unfold AS;simpa using B
 clear B q;by_cases W:L.length=0
 .have am:L=[]:=jS W;subst am
  have f:∃ao cap,v2= .slice ao 0 cap:=by
   rcases d.2 with ⟨h,_⟩|⟨g,cap,az,h,_⟩
   .exact ⟨_,_,h⟩
   .exact ⟨_,_,h⟩
  obtain ⟨ao,cap,rfl⟩:=f;have HO:=jp d;clear d hP;go_wp2;refine wp_loop_rounds 1 ?_;rw [rounds_succ];go_wp2;go_ret;exact ⟨_,rfl,J,HO.out⟩
 .obtain ⟨g,cap,an,u,a0⟩:=World.ownsRow.form d jo;subst an;obtain ⟨N,T⟩:∃N,N=L.length:=⟨_,rfl⟩;have f:=fun n h=>TU L n h
  have C:=fun n=>NQ L n
  have D:∀n (h:n<L.length),BN L (n+1)=Ck L[n] (BN L n):=fun n h=>by rw [BN,jG h]
  have h0:BN L 0=[]:=rfl;have Y:Ds w.heap.size g cap w2 L:=d;rw [<-T] at W hB |-;rw [T];generalize BN L=c at *;rw [<-T];have G:=jp T;have f:Hid (∀n,n<=N->(c n).length=n):=by rw [T];exact f
  have D:Hid (∀n (h:n<L.length),c (n+1)=Ck L[n] (c n)):=D;have C:Hid (∀n,IA (c n)):=C;clear d hP T;go_wp2;go_loopg [12] N (fun r n wr=>Aa w wr/\∃(k:Nat) (X:List EI),r=N - k/\k<=N/\n= .int .i64 k/\Ds w.heap.size g cap wr X/\X=c k++L.drop k)
  case atStart=>exact ⟨J,0,L,jo,jo,rfl,Y,by rw [h0];simp⟩
  case round=>
   obtain ⟨hb,k,X,hr,hk,rfl,U,y⟩:=hrel;have K:X.length=N:=by rw [y,jO,f.out k hk,jh];have:=G.out;omega
   clear J Y;by_cases a1:k<N
   .have Z:X[k]'jo=L[k]'(by have:=G.out;omega):=by
     have h1:(c k).length=k:=f.out k jo;simp only [y];rw [List.getElem_append_right jo];simp [h1]
    obtain ⟨c0,c1⟩:=U.get k jo
    rw [Z] at c0 c1
    have M:=jp (D.out k (by have:=G.out;omega))
    have aa:=jp (C.out k)
    have o:=jp (f.out k jo)
    have H:Hid (Ge (c k) (L.drop (k+1)) k X):=by
     refine ⟨L[k]'(by have:=G.out;omega),y.trans ?_⟩;have h1:(c k).length=k:=o.out;rw [jR jo,List.drop_of_length_le (l:=c k) jo,List.nil_append,List.drop_eq_getElem_cons (by have:=G.out;omega)]
    have HX:=jp U
    have ab:=(World.ownsRow.lt U g rfl).2
    generalize ap:L[k]'(by have:=G.out;omega)=ek at *
    obtain ⟨s,F⟩:=ek
    simp only at c0 c1 M
    clear U y Z D C ap f
    go_wp2
    obtain ⟨V,z⟩:∃V,V=wr.alloc (.cells #[.int .u64 s,.int .i64 F] 76):=⟨_,rfl⟩
    have d0:V.cell? ⟨wr.heap.size,0,none⟩=some (.int .u64 s):=by rw [z];simp
    have d1:V.cell? ⟨wr.heap.size,1,none⟩=some (.int .i64 F):=by rw [z];simp
    have ac:Aa w V:=by rw [z];exact hb.step_alloc _
    have ad:Hid (Ds w.heap.size g cap V X):=by rw [z];exact World.ownsRow.alloc HX.out _
    rw [<-z]
    generalize wr.heap.size=pb at *
    clear z hb c0 c1 HX
    go_loopg [6] k (fun r vi wr=>∃(i:Nat) (A:List EI),r=i/\i<=k/\vi= .int .i64 i/\Aa w wr/\wr.cell? ⟨pb,0,none⟩=some (.int .u64 s)/\wr.cell? ⟨pb,1,none⟩=some (.int .i64 F)/\Ds w.heap.size g cap wr A/\A.length=N/\Ge (c k) (L.drop (k+1)) i A/\∀x∈(c k).drop i,s<x.1)
    case atStart=>exact ⟨k,X,rfl,jo,rfl,ac,d0,d1,ad.out,K,H.out,fun x hx=>by rw [List.drop_of_length_le (by have:=o.out;omega)] at hx;cases hx⟩
    case round=>
     obtain ⟨i,A,aq,a2,rfl,O,e0,e1,ae,I,af,ag⟩:=hrel
     have t:=jp af
     have P:=jp ag
     have a:=jp ae
     have b:=jp I
     have ar:=jF e0
     simp only at ar
     clear af ag ae I H ad ac d0 d1
     cases i with
     |zero=>
      have Q:∀x∈(c k).take 0,x.1<=(s,F).1:=fun x hx=>by simp at hx
      clear aq
      have m:Hid (A.set 0 (s,F)=c (k+1)++L.drop (k+1)):=by
       show List.set _ _ _=_;rw [t.out.fin (by have:=o.out;omega),M.out,O7 (i:=0) (by have:=o.out;omega) Q P.out]
      have k1:=World.ownsRow.frozenAt a.out (0 * 2)
      have k2:=World.ownsRow.frozenAt a.out (0 * 2+1)
      obtain ⟨j1,j2⟩:=a.out.get 0 (by rw [b.out];omega)
      generalize A[0]'(by rw [b.out];omega)=xi at *
      obtain ⟨ah,ai⟩:=xi
      simp only at j1 j2
      have au:decide ((0:Int)>0)=false:=rfl
      have av:g<pb:=ab
      go_wp2_with fail
      go_quiet (fail)
      have p:=(jD wr).step_drewN nq
      have H9:=jp (Ds.set (BG a.out p:Ds w.heap.size g cap (wr.drewN nq) A) 0 s F)
      go_wp2
      go_roundg (N - (k+1))
      case measure=>omega
      case rel=>exact ⟨((O.step_drewN nq).step_set u _).step_set u _,k+1,_,rfl,jo,by go_num,H9.out,m.out⟩
     |succ i=>
      obtain ⟨y0,y1⟩:=a.out.get i (by rw [b.out];omega)
      have R:i<(c k).length:=by have:=o.out;omega
      rw [t.out.before (j:=i) jo jo] at y0 y1
      have av:g<pb:=ab
      have au:decide (((i:Int)+1)>0)=true:=jL jo
      have a3:IntKind.i64.wrap ((i:Int)+1 - 1)=(i:Int):=by rw [IntKind.wrap_i64];omega
      have a4:(i:Int)+1 - 1=(i:Int):=jo
      by_cases E:s<(c k)[i].1
      .have S:decide ((c k)[i].1>s)=true:=jL E
       have k1:=World.ownsRow.frozenAt a.out ((i+1) * 2)
       have k2:=World.ownsRow.frozenAt a.out ((i+1) * 2+1)
       obtain ⟨j1,j2⟩:=a.out.get (i+1) (by rw [b.out];omega)
       have aw:=jp (t.out.step R)
       have ax:Hid (∀x∈(c k).drop i,s<x.1):=by
        intro x hx;rw [List.drop_eq_getElem_cons R] at hx;rcases ja.1 hx with rfl|hx
        .exact E
        .exact P.out x hx
       generalize A[i+1]'(by rw [b.out];omega)=xi at *
       obtain ⟨ah,ai⟩:=xi
       simp only at j1 j2
       generalize (c k)[i]=pi at *
       obtain ⟨pp,po⟩:=pi
       simp only at y0 y1 E S
       go_wp2_with fail
       go_quiet (fail)
       have p:=(jD wr).step_drewN nq
       have H9:=jp (Ds.set (BG a.out p:Ds w.heap.size g cap (wr.drewN nq) A) (i+1) pp po)
       go_wp2
       go_roundg i
       case measure=>omega
       case rel=>exact ⟨i,A.set (i+1) (pp,po),rfl,jo,rfl,((O.step_drewN nq).step_set u _).step_set u _,by rw [Ad (Or.inl jv),Ad (Or.inl jv)];exact p.cell e0,by rw [Ad (Or.inl jv),Ad (Or.inl jv)];exact p.cell e1,H9.out,by rw [List.length_set];exact b.out,aw.out,ax.out⟩
      .have S:decide ((c k)[i].1>s)=false:=jK E
       have Q:∀x∈(c k).take (i+1),x.1<=(s,F).1:=by
        intro x hx;obtain ⟨j,hj,rfl⟩:=List.getElem_of_mem hx;simp only [jk] at hj;rw [List.getElem_take];by_cases ay:j=i
        .subst ay;simp only;omega
        .have:=List.pairwise_iff_getElem.1 aa.out j i jo R jo;simp only;omega
       generalize a5:(c k)[i]=pi at *
       obtain ⟨pp,po⟩:=pi
       simp only at y0 y1 E S
       have m:Hid (A.set (i+1) (s,F)=c (k+1)++L.drop (k+1)):=by
        show List.set _ _ _=_;rw [t.out.fin (by have:=o.out;omega),M.out,O7 (i:=i+1) (by have:=o.out;omega) Q P.out]
       have k1:=World.ownsRow.frozenAt a.out ((i+1) * 2)
       have k2:=World.ownsRow.frozenAt a.out ((i+1) * 2+1)
       obtain ⟨j1,j2⟩:=a.out.get (i+1) (by rw [b.out];omega)
       generalize A[i+1]'(by rw [b.out];omega)=xi at *
       obtain ⟨ah,ai⟩:=xi
       simp only at j1 j2
       go_wp2_with fail
       go_quiet (fail)
       have p:=(jD wr).step_drewN nq
       have H9:=jp (Ds.set (BG a.out p:Ds w.heap.size g cap (wr.drewN nq) A) (i+1) s F)
       go_wp2
       go_roundg (N - (k+1))
       case measure=>omega
       case rel=>exact ⟨((O.step_drewN nq).step_set u _).step_set u _,k+1,_,rfl,jo,by go_num,H9.out,m.out⟩
   .obtain rfl:k=N:=jo
    have m:Hid (X=c k):=by
     show X=c k;rw [y,List.drop_of_length_le (by have:=G.out;omega),List.append_nil]
    have HX:=jp U;clear U y D C f;go_wp2;go_ret;exact ⟨_,rfl,hb,by rw [<-G.out,<-m.out];have:=HX.out;unfold Ds sl at this;rw [K] at this;unfold AS;rw [K];exact this⟩
theorem WO (key:jt) (letter:UInt8) (each:Int) (i:Nat) (b:BK):(DD key letter each i b).length=(each * b.2).toNat:=by simp [DD]
theorem L4 (key:jt) (letter:UInt8) (each:Int) (B:List BK) (c:each<=3) (a:∀b∈B,0<=b.2/\b.2<=6) (n:Nat):(AW key letter each B n).length<=18 * n:=by
 induction n with
 |zero=>simp [AW]
 |succ n ih=>
  rw [AW];split
  .rename_i b d;rw [jO,WO];have f:=List.mem_of_getElem? d;obtain ⟨g,i⟩:=a b f;have:each * b.2<=3 * 6:=Int.mul_le_mul c i g jo;omega
  .omega
theorem MV (key:jt) (letter:UInt8) (each:Int) (B:List BK) (v:ju) (w:jj) (hP:Am w v B) (hB:AL B) (hk:key.size=16) (ac:0<=each) (P:each<=3):
  Calls Tryz.prog 88 #[.string key,.int .u8 (letter.toNat:Int),.int .i64 each,v] w (Jp w (Dk key letter each B)):=by
 obtain ⟨i0,hi,ad,ae,af⟩:=info_parts Tryz.infoEI;obtain ⟨h8,C⟩:=hB;have m:=L4 key letter each B P (fun b y=>(C b y).2.2);obtain ⟨ao,cap,rfl,d⟩:=hP.open;have o:=fun v wx hx=>Uk (AW key letter each B B.length) v wx hx (by have:=m B.length;omega)
 obtain ⟨X,hX⟩:∃X,X=Dk key letter each B:=⟨_,rfl⟩;rw [<-hX];rw [Dk] at hX;rw [<-hX] at o
 have f:∀i (h:i<B.length),AW key letter each B (i+1)=AW key letter each B i++DD key letter each i B[i]:=fun i h=>by
  rw [AW,jG h]
 have h0:AW key letter each B 0=[]:=rfl;clear hX;generalize AW key letter each B=pt at *;go_enter Tryz.func88,Tryz.ntmps88;go_wp2;go_loopg [9,16] B.length (fun r vL n wr=>Aa w wr/\∃k:Nat,r=B.length - k/\k<=B.length/\n= .int .i64 k/\AS w.heap.size wr vL (pt k))
 case atStart=>exact ⟨jD _,0,jo,jo,rfl,by rw [h0];exact World.ownsRow_nil _ _ _ _⟩
 case round=>
  obtain ⟨y,k,hr,an,rfl,hL⟩:=hrel;have HO:=jp hL;clear hL;by_cases G:k<B.length
  .obtain ⟨g,rfl,c0,c1⟩:=d k G;have Q:=y.cell c0;have R:=y.cell c1;have HS:=jp (f k G);obtain ⟨S,ag,H,I⟩:=C _ (jJ G);have ap:=m k;clear d c0 c1 f o m;generalize B[k]=bk at *;obtain ⟨c,u⟩:=bk;simp only at Q R HS ag H I S;have aq:0<=each * u:=Int.mul_nonneg ac H;have ar:each * u<=3 * 6:=Int.mul_le_mul P I H jo;obtain ⟨n,hn⟩:∃n:Nat,each * u=(n:Int):=⟨(each * u).toNat,jo⟩;obtain ⟨z,p⟩:∃z:Nat->List EI,z=fun j=>(List.range j).map fun i=>(Al key letter [i] c,(k:Int)):=⟨_,rfl⟩
   have J:z 0=[]:=by rw [p];rfl
   have K:∀j,(z j).length=j:=fun j=>by rw [p];simp
   have L:∀j,z (j+1)=z j++[(Al key letter [j] c,(k:Int))]:=fun j=>by rw [p];simp only;rw [List.range_succ,List.map_append];rfl
   have HF:Hid (pt (k+1)=pt k++z n):=by
    show _=_;rw [HS.out,p,DD,hn];rfl
   clear HS p;generalize pt k=L0 at *;obtain ⟨O,l⟩:∃O,O=wr.alloc (.cells #[.string c,.int .i64 u] 57):=⟨_,rfl⟩;have d0:O.cell? ⟨wr.heap.size,0,none⟩=some (.string c):=by rw [l];simp
   have d1:O.cell? ⟨wr.heap.size,1,none⟩=some (.int .i64 u):=by rw [l];simp
   have T:Aa w O:=by rw [l];exact y.step_alloc _
   have D:Hid (∀g,Value.ownBlock u9=some g->w.heap.size<=g/\g<wr.heap.size):=World.ownsRow.lt HO.out;have U:Hid (AS w.heap.size O u9 L0):=by rw [l];exact World.ownsRow.alloc HO.out _
   have ak:w.heap.size<=wr.heap.size:=y.size;go_wp2;rw [<-l];generalize wr.heap.size=pb at *;clear l y Q R HO;go_loopg [9,12] n (fun r vL vk wr=>∃j:Nat,r=n - j/\j<=n/\vk= .int .i64 j/\Aa w wr/\wr.cell? ⟨pb,0,none⟩=some (.string c)/\wr.cell? ⟨pb,1,none⟩=some (.int .i64 u)/\AS w.heap.size wr vL (L0++z j)/\vL.ownBlock≠some pb)
   case atStart=>exact ⟨0,jo,jo,rfl,T,d0,d1,by rw [J,List.append_nil];exact U.out,fun e=>by have:=D.out _ e;omega⟩
   case round=>
    obtain ⟨j,au,av,rfl,M,e0,e1,V,W⟩:=hrel;have Y:=jF e0;simp only at Y;have HJ:=jp V;have aw:=M.size;have N:=jp W;clear V U D T d0 d1 W;by_cases ax:j<n
    .have HP:=jp (L j);have al:=K j;have hH:=fun wx=>F5 key letter [j] (.slice (some ⟨wx.heap.size,0,none⟩) 1 1) c _ (Jl wx j) js jo jo
     clear L J K;generalize Al key letter [j] c=x at *;generalize z j=Lj at *;have hd:decide ((j:Int)<each * u)=true:=jL jo;have ay:(L0++Lj).length<=300:=by rw [jO];omega
     go_wp2_with fail;refine (hH _).mono ?_;rintro e Z ⟨rfl,A⟩;have q:Aa wr Z:=(Aa.step_alloc (jD wr) _).trans A;have aa:=M.trans q;have s:=jp (BG HJ.out q);have f0:=q.cell e0;have f1:=q.cell e1;have I:=aa.size;have az:=q.size;clear A hH HJ;generalize E:L0++Lj=LL at *;have ah:=jp E;clear E;go_wp2_with (first|(at_builtin;refine wpList_append_lies _ rfl _ _ 46 rfl w.heap.size 76 i0 (.agg #[.int .u64 0,.int .i64 0]) 2 16 Tryz.underlying46 hi ad ae af rfl ji _ LL.length (Bf LL) rfl ?p1 ⟨Z.heap.size,0,none⟩ 1 1 [.int .u64 x,.int .i64 (k:Int)] rfl rfl ?d1 ?d2 ji ?d3 ?d4 ?d5 _ rfl ?_))
     case p1=>exact World.ownsRow.alloc s.out _
     try (case d1=>exact C8 _ _ _ _ _ js)
     case d2=>first|exact ⟨rfl,rfl⟩|exact Df rfl rfl
     case d3=>unfold maxLen;omega
     case d4=>omega
     case d5=>first|omega|(simp;omega)
     intro g3 ab w3 t a F am;have ai:Aa w w3:=(aa.step_alloc _).grown a (fun g hg=>(World.ownsRow.lt s.out g hg).1);have q0:w3.cell? ⟨pb,0,none⟩=some (.string c):=JD a ((Aa.step_alloc (jD Z) _).cell f0) N.out;have q1:w3.cell? ⟨pb,1,none⟩=some (.int .i64 u):=JD a ((Aa.step_alloc (jD Z) _).cell f1) N.out;have H3:=jp (AS.snoc (b:=(x,(k:Int))) t rfl)
     have aj:Hid (Value.ownBlock (.slice (some ⟨g3,0,none⟩) (LL.length+1) ab)≠some pb):=by
      intro e;have e2:g3=pb:=by simpa [Value.ownBlock] using e
      rcases F with h|h
      .exact N.out (by rw [h,e2])
      .first|omega|(simp at h;omega)
     clear t a F s;go_wp2;go_roundg (n - (j+1))
     case measure=>omega
     case rel=>exact ⟨j+1,rfl,jo,by go_num,ai,q0,q1,by rw [HP.out,<-List.append_assoc,ah.out];exact H3.out,aj.out⟩
    .obtain rfl:j=n:=jo
     have hd:decide ((j:Int)<each * u)=false:=jK jo;clear L J K;go_wp2;go_roundg (B.length - (k+1))
     case measure=>omega
     case rel=>exact ⟨M,k+1,rfl,jo,by go_num,by rw [HF.out];exact HJ.out⟩
  .obtain rfl:k=B.length:=jo
   clear d f;go_wp2_with fail;refine (o _ _ HO.out.ents).mono ?_;rintro e Z ⟨v2,rfl,A,s⟩;go_wp2;go_ret;exact ⟨_,rfl,y.trans A,World.ownsRow.mono s y.size⟩
def Cx (w:jj) (q:Nat) (c:Ac) (a b:ju):Prop:=
 (w.cell? ⟨q,0,none⟩=some (.int .i64 c.alg)/\w.cell? ⟨q,1,none⟩=some (.int .i64 c.slots)/\w.cell? ⟨q,2,none⟩=some (.int .i64 c.points)/\w.cell? ⟨q,3,none⟩=some (.int .i64 c.probes)/\w.cell? ⟨q,4,none⟩=some (.string c.key)/\w.cell? ⟨q,5,none⟩=some (.int .i64 c.formats))/\
 w.cell? ⟨q,6,none⟩=some a/\w.cell? ⟨q,7,none⟩=some b
theorem Cx.later {a w:jj} {q:Nat} {c:Ac} {b d:ju} (h:Cx a q c b d) (k:Aa a w):Cx w q c b d:=by
 obtain ⟨⟨f,g,i,l,m,n⟩,o,p⟩:=h;exact ⟨⟨k.cell f,k.cell g,k.cell i,k.cell l,k.cell m,k.cell n⟩,k.cell o,k.cell p⟩
def NO (w:jj) (s:jt) (e:Ending) (w':jj):Prop:=e= .returned (.string s)/\Aa w w'
theorem ES {a b:jt} (h:a=b):Ending.returned (.string a)= .returned (.string b):=by rw [h]
theorem Nz (q:Nat) (c:Ac) (i l:ju) (B:List BK) (x:Int) (w:jj) (m:Cx w q c i l) (n:Am w i B):
  Calls Tryz.prog 49 #[.pointer (some ⟨q,0,none⟩),.int .i64 x] w (NO w (A7 B x)):=by
 obtain ⟨-,s, -⟩:=m;obtain ⟨t,cap,rfl,f⟩:=n.open;obtain ⟨X,b⟩:∃X,X=A7 B x:=⟨_,rfl⟩;rw [<-b];by_cases a:x<0
 .have HX:Hid (X=ByteArray.empty):=by show X=_;rw [b,A7,if_pos a]
  have o:decide (x<0)=true:=jL a;clear f b;go_enter Tryz.func49,Tryz.ntmps49;go_wp2_with fail
  first
  |(go_ret;exact ⟨ES HX.out.symm,jq⟩)
  |(go_quiet (fail);go_wp2;go_ret;exact ⟨ES HX.out.symm,jq⟩)
 .obtain ⟨k,rfl⟩:∃k:Nat,x=(k:Int):=⟨x.toNat,jo⟩;have o:decide ((k:Int)<0)=false:=jK a;by_cases d:k<B.length
  .obtain ⟨g,rfl,u,v⟩:=f k d;have HX:Hid (X=B[k].1):=by show X=_;rw [b,A7,if_neg a,Int.toNat_natCast,jG d];rfl
   have p:decide ((k:Int)>=(B.length:Int))=false:=jK jo;clear f b;generalize B[k].1=r at *;go_enter Tryz.func49,Tryz.ntmps49;go_wp2_with fail
   first
   |(go_ret;exact ⟨ES HX.out.symm,jq⟩)
   |(go_quiet (fail);go_wp2;go_ret;exact ⟨ES HX.out.symm,jq⟩)
  .have HX:Hid (X=ByteArray.empty):=by show X=_;rw [b,A7,if_neg a,Int.toNat_natCast,List.getElem?_eq_none jo];rfl
   have p:decide ((k:Int)>=(B.length:Int))=true:=jL jo;clear f b;go_enter Tryz.func49,Tryz.ntmps49;go_wp2_with fail
   first
   |(go_ret;exact ⟨ES HX.out.symm,jq⟩)
   |(go_quiet (fail);go_wp2;go_ret;exact ⟨ES HX.out.symm,jq⟩)
theorem Oo (E:List EI) (h:Int) (a:0<E.length):A8 E h<E.length:=by
 unfold A8;split
 .assumption
 .exact a
theorem R8 (c:Ac) (E:List EI) (v:ju) (k:jt) (w:jj) (R:AR w v E) (hB:E.length<=65536) (H:c.OK) (hk:k.size<=4611686018427386000) (hE:0<E.length):
  Calls Tryz.prog 189 #[.agg c.cells,v,.string k] w (D9 w (C9 c E k c.probes.toNat).1):=by
 obtain ⟨aa,ab,S⟩:1<=c.probes/\c.probes<=5/\c.key.size=16:=⟨H.2.2.2.2.2.2.2.1,H.2.2.2.2.2.2.2.2.1,H.2.2.2.2.2.2.2.2.2.1⟩;have q:=fun h I hx=>Is E v h I hx hB
 have i:=fun h=>Oo E h hE
 obtain ⟨n,T⟩:∃n:Nat,c.probes=(n:Int):=⟨c.probes.toNat,jo⟩;rw [T,Int.toNat_natCast];obtain ⟨l,m⟩:∃l,l=C9 c E k:=⟨_,rfl⟩;have J:l 0=(0,0):=by rw [m];rfl
 have O:∀j,l (j+1)=if j=0\/((E.getD (A8 E (Al c.key 112 [j] k)) (0,0)).1 - Al c.key 112 [j] k) % 18446744073709551616<(l j).2 then (A8 E (Al c.key 112 [j] k),((E.getD (A8 E (Al c.key 112 [j] k)) (0,0)).1 - Al c.key 112 [j] k) % 18446744073709551616) else l j:=fun j=>by rw [m];rfl
 rw [<-m];clear m;obtain ⟨alg,s,o,K,key,b⟩:=c;simp only [Ac.cells] at *;subst T;obtain ⟨ao,cap,rfl,a⟩:=R.open;clear H;go_enter Tryz.func189,Tryz.ntmps189;go_wp2;obtain ⟨t,d⟩:∃t,t=w.alloc (.cells #[.int .i64 alg,.int .i64 s,.int .i64 o,.int .i64 (n:Int),.string key,.int .i64 b] 30):=⟨_,rfl⟩;have m3:t.cell? ⟨w.heap.size,3,none⟩=some (.int .i64 (n:Int)):=by rw [d];simp
 have m4:t.cell? ⟨w.heap.size,4,none⟩=some (.string key):=by rw [d];simp
 have z:Aa w t:=by rw [d];exact (jD w).step_alloc _
 rw [<-d];clear d;go_loopg [7,8,9] n (fun r vb vl vi wr=>Aa t wr/\∃j:Nat,r=n - j/\j<=n/\vi= .int .i64 j/\vb= .int .i64 ((l j).1:Int)/\vl= .int .u64 (l j).2)
 case atStart=>exact ⟨jD _,0,jo,jo,rfl,by rw [J];rfl,by rw [J]⟩
 case round=>
  obtain ⟨L,j,hr,ac,rfl,rfl,rfl⟩:=hrel;have n3:=L.cell m3;have n4:=L.cell m4;by_cases ad:j<n
  .have f:=jp (O j);have U:=fun I=>F5 key 112 [j] (.slice (some ⟨I.heap.size,0,none⟩) 1 1) k _ (Jl I j) js jo hk
   clear O J;generalize Al key 112 [j] k=x at *;have q:=q x;have i:=i x;generalize A8 E x=p at *;obtain ⟨g,rfl,V,c1⟩:=a p i;have W:Hid (E.getD p (0,0)=E[p]):=by show E.getD p (0,0)=E[p];rw [jV,jG i];rfl
   rw [W.out] at f;clear W a;generalize l j=mj at *;obtain ⟨mb,P⟩:=mj;simp only at f;have ae:decide ((p:Int)>=(E.length:Int))=false:=jK jo;have hd:decide ((j:Int)<(n:Int))=true:=jL jo;go_wp2_with fail;refine (U _).mono ?_;rintro e w2 ⟨rfl,A⟩;have B:Aa t w2:=(L.step_alloc _).trans A;have C:=z.trans B;have D:=AR.later R C;have X:=C.cell V;clear A U;go_wp2_with fail;refine (q _ D).mono ?_;rintro e w3 ⟨rfl,u⟩;have y:=B.trans u;have f0:=u.cell X;clear D u X V c1;generalize E[p].1=Y at *;generalize F:(Y - x) % 18446744073709551616=M at *;have af:IntKind.u64.wrap (Y - x)=M:=by rw [IntKind.wrap_u64];exact F
   clear F;by_cases G:j=0
   .subst G;rw [if_pos (Or.inl rfl)] at f;go_wp2;go_roundg (n - 1)
    case measure=>omega
    case rel=>exact ⟨y,1,rfl,jo,by go_num,by rw [f.out],by rw [f.out]⟩
   .have Z:((j:Int)==0)=false:=by rw [jI];omega
    by_cases N:M<P
    .rw [if_pos (Or.inr N)] at f;have Q:decide (M<P)=true:=jL N;go_wp2;go_roundg (n - (j+1))
     case measure=>omega
     case rel=>exact ⟨y,j+1,rfl,jo,by go_num,by rw [f.out],by rw [f.out]⟩
    .rw [if_neg (fun h=>h.elim G N)] at f;have Q:decide (M<P)=false:=jK N;go_wp2;go_roundg (n - (j+1))
     case measure=>omega
     case rel=>exact ⟨y,j+1,rfl,jo,by go_num,by rw [f.out],by rw [f.out]⟩
  .obtain rfl:j=n:=jo
   clear O J a;go_wp2;go_ret;exact ⟨rfl,z.trans L⟩
end Go.Proofs.YtpapdkhjdelfcaaGreat
