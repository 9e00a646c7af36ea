import Derived.Test.YtpapdkhjdelfcaaGreatLAD
import Derived.Laws.AppendOwnNone
import Derived.Deep.RegionHeld3
namespace Go.Proofs.YtpapdkhjdelfcaaGreat
open Go.RowKit
set_option maxRecDepth 100000
set_option maxHeartbeats 4000000
theorem TH (w:World) (a b:Nat):IM (w.alloc (.cells #[.int .i64 (a:Int),.int .i64 (b:Int)] 3)) (.slice (some ⟨w.heap.size,0,none⟩) 2 2) [a,b]:=by
 refine Or.inr ⟨w.heap.size,2,rfl,js,js,fun j u c=>?_⟩;have d:=(List.getElem?_eq_some_iff.1 c).1;simp at d;rcases (show j=0\/j=1 by omega) with rfl|rfl
 .simp at c;subst c;simp
 .simp at c;subst c;simp
theorem Jl (w:World) (a:Nat):IM (w.alloc (.cells #[.int .i64 (a:Int)] 3)) (.slice (some ⟨w.heap.size,0,none⟩) 1 1) [a]:=by
 refine Or.inr ⟨w.heap.size,1,rfl,js,js,fun j u b=>?_⟩;have c:=(List.getElem?_eq_some_iff.1 b).1;simp at c;rcases (show j=0 by omega) with rfl;simp at b;subst b;simp
theorem WM (key:ByteArray) (s:Nat) (B:List BK) (v:Value) (w:World) (hP:Am w v B) (hB:AL B) (hk:key.size=16):
  Calls Tryz.prog 144 #[.string key,.int .i64 s,v] w (J0 w (CS key B s)):=by
 obtain ⟨h8,u⟩:=hB;obtain ⟨ao,cap,rfl,b⟩:=hP.open;obtain ⟨X,G⟩:∃X,X=CS key B s:=⟨_,rfl⟩;rw [<-G];rw [CS] at G;have HX:=jp G;clear G
 have c:∀i (h:i<B.length),AV key s B (i+1)=A6 key s i B[i].1 (AV key s B i) B[i].2.toNat:=fun i h=>by
  rw [AV,jG h]
 have U:AV key s B 0=(-1,0):=rfl;generalize AV key s B=J at *;go_enter Tryz.func144,Tryz.ntmps144;go_wp2;go_loopg [7,8,15] B.length (fun r K L n wr=>Aa w wr/\∃k:Nat,r=B.length - k/\k<=B.length/\n= .int .i64 k/\K= .int .i64 (J k).1/\L= .int .u64 (J k).2)
 case atStart=>exact ⟨jD _,0,jo,jo,rfl,by rw [U],by rw [U]⟩
 case round=>
  obtain ⟨y,k,hr,aa,rfl,rfl,rfl⟩:=hrel;by_cases m:k<B.length
  .obtain ⟨g,rfl,V,W⟩:=b k m;have z:=y.cell V;have A:=y.cell W;have H:=jp (c k m);obtain ⟨C,M,N,O⟩:=u _ (jJ m);clear b V W c;generalize B[k]=bk at *;obtain ⟨a,Y⟩:=bk;simp only at z A H M N O C;obtain ⟨n,D⟩:∃n:Nat,Y=(n:Int):=⟨Y.toNat,jo⟩;subst D;rw [Int.toNat_natCast] at H;generalize J k=o at *;go_wp2;have E:A6 key s k a o 0=o:=rfl;have p:∀j,A6 key s k a o (j+1)=if (A6 key s k a o j).1<0\/(A6 key s k a o j).2<Al key 104 [s,j] a then ((k:Int),Al key 104 [s,j] a) else A6 key s k a o j:=fun _=>rfl
   generalize A6 key s k a o=P at *;obtain ⟨q,d⟩:∃q,q=wr.alloc (.cells #[.string a,.int .i64 (n:Int)] 57):=⟨_,rfl⟩;have d0:q.cell? ⟨wr.heap.size,0,none⟩=some (.string a):=by rw [d];simp
   have d1:q.cell? ⟨wr.heap.size,1,none⟩=some (.int .i64 (n:Int)):=by rw [d];simp
   have Q:Aa w q:=by rw [d];exact y.step_alloc _
   rw [<-d];generalize wr.heap.size=pb at *;clear d y z A;go_loopg [7,8,11] n (fun r K L vk wr=>Aa q wr/\∃j:Nat,r=n - j/\j<=n/\vk= .int .i64 j/\K= .int .i64 (P j).1/\L= .int .u64 (P j).2)
   case atStart=>exact ⟨jD _,0,jo,jo,rfl,by rw [E],by rw [E]⟩
   case round=>
    obtain ⟨l,j,ab,ac,rfl,rfl,rfl⟩:=hrel;have e0:=l.cell d0;have e1:=l.cell d1;have R:=jF e0;by_cases ad:j<n
    .have f:=jp (p j);have Z:=fun wx=>F5 key 104 [s,j] (.slice (some ⟨wx.heap.size,0,none⟩) 2 2) a _ (TH wx s j) js jo jo
     clear p;generalize Al key 104 [s,j] a=x at *;generalize P j=mj at *;obtain ⟨mb,S⟩:=mj;simp only at f;have hd:decide ((j:Int)<(n:Int))=true:=jL jo;simp only at R;go_wp2_with fail;refine (Z _).mono ?_;rintro e w2 ⟨rfl,F⟩;have t:Aa q w2:=(l.step_alloc _).trans F;clear F Z;by_cases D:mb<0
     .rw [if_pos (Or.inl D)] at f;go_wp2;go_roundg (n - (j+1))
      case measure=>omega
      case rel=>exact ⟨t,j+1,rfl,jo,by go_num,by rw [f.out],by rw [f.out]⟩
     .have ae:decide (mb<0)=false:=jK D;by_cases I:S<x
      .rw [if_pos (Or.inr I)] at f;have T:decide (x>S)=true:=jL I;go_wp2;go_roundg (n - (j+1))
       case measure=>omega
       case rel=>exact ⟨t,j+1,rfl,jo,by go_num,by rw [f.out],by rw [f.out]⟩
      .rw [if_neg (fun h=>h.elim D I)] at f;have T:decide (x>S)=false:=jK I;go_wp2;go_roundg (n - (j+1))
       case measure=>omega
       case rel=>exact ⟨t,j+1,rfl,jo,by go_num,by rw [f.out],by rw [f.out]⟩
    .obtain rfl:j=n:=jo
     clear p;go_wp2;go_roundg (B.length - (k+1))
     case measure=>omega
     case rel=>exact ⟨Q.trans l,k+1,rfl,jo,by go_num,by rw [H.out],by rw [H.out]⟩
  .obtain rfl:k=B.length:=jo
   clear b c;go_wp2;go_ret;exact ⟨BO HX.out.symm,y⟩
theorem Yv (c:Ac) (B:List BK) (v:Value) (w:World) (hP:Am w v B) (hB:AL B) (hc:c.OK):
  Calls Tryz.prog 90 #[.agg c.cells,v] w (Jp w (BF ((List.range c.slots.toNat).map (CS c.key B)))):=by
 obtain ⟨i0,hi,hz0,hz1,hz2⟩:=info_parts Tryz.infoEI;obtain ⟨hs1,hs2,hk16⟩:3<=c.slots/\c.slots<=211/\c.key.size=16:=⟨hc.2.2.1,hc.2.2.2.1,hc.2.2.2.2.2.2.2.2.2.1⟩;have hwin:=fun s wx hx=>WM c.key s B v wx hx hB hk16
 have hbnd:∀s, -1<=CS c.key B s\/True:=fun _=>Or.inr trivial
 obtain ⟨M,hM⟩:∃M:Nat,c.slots=(M:Int):=⟨c.slots.toNat,jo⟩
 have hrange:∀k,BF ((List.range (k+1)).map (CS c.key B))=BF ((List.range k).map (CS c.key B))++[(0,CS c.key B k)]:=fun k=>by
  rw [List.range_succ,List.map_append,BF,List.map_append];rfl
 have hlen:∀k,(BF ((List.range k).map (CS c.key B))).length=k:=fun k=>by rw [Gp];simp
 have h0:BF ((List.range 0).map (CS c.key B))=[]:=rfl;obtain ⟨Lk,hLk⟩:∃Lk:Nat->List EI,Lk=fun k=>BF ((List.range k).map (CS c.key B)):=⟨_,rfl⟩
 have hr2:∀k,Lk (k+1)=Lk k++[(0,CS c.key B k)]:=fun k=>by rw [hLk];exact hrange k
 have hl2:∀k,(Lk k).length=k:=fun k=>by rw [hLk];exact hlen k
 have h02:Lk 0=[]:=by rw [hLk];exact h0
 rw [show BF ((List.range c.slots.toNat).map (CS c.key B))=Lk M from by rw [hLk,hM];rfl];generalize CS c.key B=wf at *;clear hLk hrange hlen h0 hbnd;obtain ⟨alg,slots,points,probes,key,formats⟩:=c;simp only [Ac.cells] at *;subst hM;clear hc hB;go_enter Tryz.func90,Tryz.ntmps90;go_wp2;obtain ⟨wm,hwm⟩:∃wm,wm=w.alloc (.cells #[.int .i64 alg,.int .i64 (M:Int),.int .i64 points,.int .i64 probes,.string key,.int .i64 formats] 30):=⟨_,rfl⟩;have m1:wm.cell? ⟨w.heap.size,1,none⟩=some (.int .i64 (M:Int)):=by rw [hwm];simp
 have m4:wm.cell? ⟨w.heap.size,4,none⟩=some (.string key):=by rw [hwm];simp
 have hwb:Aa w wm:=by rw [hwm];exact (jD w).step_alloc _
 have hsz:wm.heap.size=w.heap.size+1:=by rw [hwm];simp
 rw [<-hwm];clear hwm;go_loopg [5,6] M (fun r vL n wr=>Aa wm wr/\∃(k:Nat),r=M - k/\k<=M/\n= .int .i64 k/\AS (w.heap.size+1) wr vL (Lk k))
 case atStart=>exact ⟨jD _,0,jo,jo,rfl,by rw [h02];exact World.ownsRow_nil _ _ _ _⟩
 case round=>
  obtain ⟨hb,k,hr,hk,rfl,hL⟩:=hrel;have hwr:=hb.size;have n1:=hb.cell m1;have n4:=hb.cell m4;have HO:=jp hL;clear hL;by_cases hlt:k<M
  .have hLl:=hl2 k;have HS:=jp (hr2 k);have hw:=fun wx hx=>hwin k wx hx
   clear hl2 hr2 h02 hwin;generalize Lk k=L at *;have hLk:L.length<=300:=jo
   clear hLl;generalize wf k=x at *;go_wp2_with fail;refine (hw _ (hP.later (hwb.trans hb))).mono ?_;rintro e w1 ⟨rfl,hb1⟩;have hO1:=jp (BG HO.out hb1);have hbm:=hb.trans hb1;have hw1:=hbm.size;clear HO hw hb1;go_wp2_with (first|(at_builtin;refine wpList_append_own _ rfl _ _ 46 rfl (w.heap.size+1) 76 i0 (.agg #[.int .u64 0,.int .i64 0]) 2 16 Tryz.underlying46 hi hz0 hz1 hz2 rfl ji _ L.length (Bf L) rfl ?p1 ⟨w1.heap.size,0,none⟩ 1 1 [.int .u64 0,.int .i64 x] rfl rfl ?d1 ?d2 ?d3 ?d4 ?d5 ?_))
   case p1=>exact World.ownsRow.alloc hO1.out _
   try (case d1=>exact C8 _ _ _ _ _ js)
   case d2=>first|exact ⟨rfl,rfl⟩|exact Df rfl rfl
   case d3=>unfold maxLen;omega
   case d4=>omega
   case d5=>first|omega|(simp;omega)
   intro v2 w2 hown2 hgrow2 _;have hb2:Aa wm w2:=(hbm.step_alloc _).grown hgrow2 (fun g hg=>by have:=(World.ownsRow.lt hO1.out g hg).1;omega);have H2:=jp (AS.snoc (b:=(0,x)) hown2 rfl);clear hown2 hgrow2;go_wp2;go_roundg (M - (k+1))
   case measure=>omega
   case rel=>exact ⟨hb2,k+1,rfl,jo,by go_num,by rw [HS.out];exact H2.out⟩
  .obtain rfl:k=M:=jo
   clear hl2 hr2 h02 hwin;go_wp2;go_ret;exact ⟨_,rfl,hwb.trans hb,World.ownsRow.mono HO.out jo⟩
def Fv (w:World) (x:Value) (m:Nat) (a:List Value):Prop:=
 (x= .slice none 0 0/\m=0/\a=[])\/∃b c,x= .slice (some b) m c/\∀j u,a[j]?=some u->w.cell? (b.add j)=some u
theorem Fv.later {a w:World} {x:Value} {m:Nat} {b:List Value} (h:Fv a x m b) (k:Aa a w):Fv w x m b:=by
 rcases h with h|⟨d,c,f,g⟩
 .exact Or.inl h
 .exact Or.inr ⟨d,c,f,fun j u i=>k.cell (g j u i)⟩
theorem Fn {P:Program} (w:World) {q:Array Oper} {rest:List Oper} {o:Oper} {a:Act} {Q:Exit->Act->World->Prop} (r:o.guard=none) (s x:Operand) (t:TypeId)
  (G:o.op= .call {callee:= .builtin .append,args:=#[s,x],argTypes:=#[t,t]})
  (base:Nat) (e:TypeId) (i:TypeInfo) (z:Value) (b f:Nat) (H:P.underlying t=some (.slice e)) (I:P.info? e=some i) (M:i.zero=some z)
  (l:i.size=b) (C:i.bytes=f) (D:z.cells.size=b) (E:0<b)
  (v:Value) (n:Nat) (A:List Value) (J:a.eval s=v) (g:w.ownsRow base e b v n A)
  (K:Value) (m:Nat) (d:List Value) (L:a.eval x=K) (y:Fv w K m d) (N:d.length=m * b) (O:∀u∈d,u.oneCell'=true)
  (F:n+m<=maxLen) (k:(n+m) * f<=140737488355328) (p:base<=w.heap.size)
  (h:∀B w',w'.ownsRow base e b B (n+m) (A++d)->w.grownBy w' v.ownBlock->wpList P q Q rest (a.put o.dst B) w'):wpList P q Q (o::rest) a w:=by
 rcases y with ⟨rfl,rfl,rfl⟩|⟨R,c,rfl,S⟩
 .refine wpList_append_own_none r s x t G base e i b H I v n A J g L ?_;exact h v w (by simpa using g) (World.grownBy.refl w _)
 .exact wpList_append_own w r s x t G base e i z b f H I M l C D E v n A J g R m c d L N S O F k p (fun B w' T U _=>h B w' T U)
def Ds (base g cap:Nat) (w:World) (X:List EI):Prop:=w.ownsRow base 76 2 (sl g X.length cap) X.length (Bf X)
theorem SQ (X:List EI) (k:Nat) (e:EI):Bf (X.set k e)=((Bf X).set (k * 2) (.int .u64 e.1)).set (k * 2+1) (.int .i64 e.2):=by
 induction X generalizing k with
 |nil=>simp [Bf]
 |cons s S ih=>
  cases k with
  |zero=>simp [Bf]
  |succ k=>
   have a:(k+1) * 2=k * 2+1+1:=jo
   have:=ih k;simp only [Bf,List.set_cons_succ,List.flatMap_cons,List.cons_append,List.nil_append,a] at this |-;rw [this]
theorem Ds.set {base g cap:Nat} {w:World} {X:List EI} (h:Ds base g cap w X) (k:Nat) (a b:Int):Ds base g cap ((w.setCell ⟨g,k * 2,none⟩ (.int .u64 a)).setCell ⟨g,k * 2+1,none⟩ (.int .i64 b)) (X.set k (a,b)):=by
 have c:=(World.ownsRow.stored h (k * 2) (.int .u64 a)).1;have d:=(World.ownsRow.stored c (k * 2+1) (.int .i64 b)).1;unfold Ds;rw [SQ,sl,List.length_set];exact d
theorem Ds.get {base g cap:Nat} {w:World} {X:List EI} (h:Ds base g cap w X) (j:Nat) (a:j<X.length):w.cell? ⟨g,j * 2,none⟩=some (.int .u64 X[j].1)/\w.cell? ⟨g,j * 2+1,none⟩=some (.int .i64 X[j].2):=by
 have:=JZ X j a;exact ⟨by rw [World.ownsRow.cellAt h (j * 2) jo];exact this.1,by rw [World.ownsRow.cellAt h (j * 2+1) jo];exact this.2⟩
theorem OD (B:List EI):∀u∈Bf B,u.oneCell'=true:=by
 intro u a;simp only [Bf,jd,ja,List.not_mem_nil,or_false] at a;obtain ⟨b,_,rfl|rfl⟩:=a <;>rfl
theorem AR.src {w:World} {v:Value} {L:List EI} (h:AR w v L):Fv w v L.length (Bf L):=by
 rcases h with ⟨b,c,d⟩|⟨g,cap,f,l,m,i⟩
 .exact Or.inl ⟨b,c,d⟩
 .refine Or.inr ⟨_,_,f,fun j u k=>?_⟩;have a:(⟨g,0,none⟩:Addr).add j=⟨g,j,none⟩:=by unfold Addr.add;split <;>simp_all
  rw [a];exact i j u k
def IA (L:List EI):Prop:=L.Pairwise fun a b=>a.1<=b.1
theorem Mw {e x:EI} {L:List EI}:x∈Ck e L↔x=e\/x∈L:=by
 induction L with
 |nil=>simp [Ck]
 |cons b B ih=>
  simp only [Ck];split
  .simp
  .simp only [ja,ih];constructor
   .rintro (h|h|h)
    .exact Or.inr (Or.inl h)
    .exact Or.inl h
    .exact Or.inr (Or.inr h)
   .rintro (h|h|h)
    .exact Or.inr (Or.inl h)
    .exact Or.inl h
    .exact Or.inr (Or.inr h)
theorem NC (e:EI) (L:List EI):(Ck e L).length=L.length+1:=by
 induction L with
 |nil=>rfl
 |cons b B ih=>simp only [Ck];split <;>simp [ih]
theorem SU {e:EI} {L:List EI} (h:IA L):IA (Ck e L):=by
 induction L with
 |nil=>exact List.pairwise_singleton _ _
 |cons b B ih=>
  obtain ⟨c,d⟩:=List.pairwise_cons.1 h;simp only [Ck];split
  .rename_i f;refine List.pairwise_cons.2 ⟨fun x a=>?_,h⟩;rcases ja.1 a with rfl|a
   .exact Int.le_of_lt f
   .have:=c x a;omega
  .refine List.pairwise_cons.2 ⟨fun x a=>?_,ih d⟩;rcases Mw.1 a with rfl|a
   .omega
   .exact c x a
theorem O7 {e:EI} {L:List EI} {i:Nat} (f:i<=L.length) (c:∀x∈L.take i,x.1<=e.1) (d:∀x∈L.drop i,e.1<x.1):Ck e L=L.take i++e::L.drop i:=by
 induction L generalizing i with
 |nil=>simp [Ck]
 |cons b B ih=>
  cases i with
  |zero=>
   have:=d b js;simp [Ck,this]
  |succ i=>
   have:=c b js;simp only [Ck,List.take_succ_cons,List.drop_succ_cons,List.cons_append];rw [if_neg jo,ih (by simpa using f) (fun x a=>c x (by simp [a])) (fun x a=>d x (by simpa using a))]
theorem TU (L:List EI) (n:Nat) (h:n<=L.length):(BN L n).length=n:=by
 induction n with
 |zero=>rfl
 |succ n ih=>rw [BN,jG jo];simp only;rw [NC,ih jo]
theorem NQ (L:List EI) (n:Nat):IA (BN L n):=by
 induction n with
 |zero=>exact List.Pairwise.nil
 |succ n ih=>
  rw [BN];split
  .exact SU ih
  .exact ih
def Ge (P:List EI) (R:List EI) (i:Nat) (X:List EI):Prop:=∃x,X=P.take i++x::(P.drop i++R)
theorem Ge.len {P R X:List EI} {i:Nat} (h:Ge P R i X) (a:i<=P.length):X.length=P.length+1+R.length:=by
 obtain ⟨x,rfl⟩:=h;simp;omega
theorem Ge.before {P R X:List EI} {i j:Nat} (h:Ge P R i X) (a:i<=P.length) (b:j<i) (c:j<X.length):X[j]=P[j]'jo:=by
 obtain ⟨x,rfl⟩:=h;rw [List.getElem_append_left jx,List.getElem_take]
theorem Ge.step {P R X:List EI} {i:Nat} (h:Ge P R (i+1) X) (a:i<P.length):Ge P R i (X.set (i+1) P[i]):=by
 obtain ⟨x,rfl⟩:=h;refine ⟨P[i],?_⟩;have b:(P.take (i+1)).length=i+1:=jx
 rw [List.set_append_right _ _ jo,b,Nat.sub_self,List.set_cons_zero,jQ a,List.append_assoc,List.drop_eq_getElem_cons (i:=i) a];rfl
theorem Ge.fin {P R X:List EI} {i:Nat} {e:EI} (h:Ge P R i X) (b:i<=P.length):X.set i e=P.take i++e::P.drop i++R:=by
 obtain ⟨x,rfl⟩:=h;have a:(P.take i).length=i:=jx
 rw [List.set_append_right _ _ jo,a,Nat.sub_self,List.set_cons_zero];simp
theorem Uk (L:List EI) (v:Value) (w:World) (hP:AR w v L) (hB:L.length<=65536):
  Calls Tryz.prog 143 #[v] w (Jp w (BN L L.length)):=by
 obtain ⟨i0,hi,ak,al,am⟩:=info_parts Tryz.infoEI;go_enter Tryz.func143,Tryz.ntmps143;go_wp2_with (first|(at_builtin;refine Fn _ rfl _ _ 46 rfl w.heap.size 76 i0 (.agg #[.int .u64 0,.int .i64 0]) 2 16 Tryz.underlying46 hi ak al am rfl ji _ 0 [] rfl ?o1 _ L.length (Bf L) rfl ?o2 ?c1 ?c2 ?c3 ?c4 ?c5 ?_))
 case o1=>exact World.ownsRow_lit w #[] 0 (jH _) ji rfl
 case o2=>exact (hP.later ((jD w).step_alloc _)).src
 case c1=>exact Ps L
 case c2=>exact OD L
 case c3=>unfold maxLen;omega
 case c4=>omega
 case c5=>simp
 intro v2 w2 B q;have K:Aa w w2:=((jD w).step_alloc _).grown q (fun g hg=>by simp [Value.ownBlock] at hg;omega);have d:AS w.heap.size w2 v2 L:=by unfold AS;simpa using B
 clear B q;by_cases Y:L.length=0
 .have an:L=[]:=jS Y;subst an
  have f:∃ao cap,v2= .slice ao 0 cap:=by
   rcases d.2 with ⟨h,_⟩|⟨g,cap,a0,h,_⟩
   .exact ⟨_,_,h⟩
   .exact ⟨_,_,h⟩
  obtain ⟨ao,cap,rfl⟩:=f;have HO:=jp d;clear d hP;go_wp2;refine wp_loop_rounds 1 ?_;rw [rounds_succ];go_wp2;go_ret;exact ⟨_,rfl,K,HO.out⟩
 .obtain ⟨g,cap,ap,u,a1⟩:=World.ownsRow.form d jo;subst ap;obtain ⟨N,U⟩:∃N,N=L.length:=⟨_,rfl⟩;have f:=fun n h=>TU L n h
  have C:=fun n=>NQ L n
  have D:∀n (h:n<L.length),BN L (n+1)=Ck L[n] (BN L n):=fun n h=>by rw [BN,jG h]
  have h0:BN L 0=[]:=rfl;have Z:Ds w.heap.size g cap w2 L:=d;rw [<-U] at Y hB |-;rw [U];generalize BN L=c at *;rw [<-U];have H:=jp U;have f:Hid (∀n,n<=N->(c n).length=n):=by rw [U];exact f
  have D:Hid (∀n (h:n<L.length),c (n+1)=Ck L[n] (c n)):=D;have C:Hid (∀n,IA (c n)):=C;clear d hP U;go_wp2;go_loopg [12] N (fun r n wr=>Aa w wr/\∃(k:Nat) (X:List EI),r=N - k/\k<=N/\n= .int .i64 k/\Ds w.heap.size g cap wr X/\X=c k++L.drop k)
  case atStart=>exact ⟨K,0,L,jo,jo,rfl,Z,by rw [h0];simp⟩
  case round=>
   obtain ⟨hb,k,X,hr,hk,rfl,V,y⟩:=hrel;have M:X.length=N:=by rw [y,jO,f.out k hk,jh];have:=H.out;omega
   clear K Z;by_cases a2:k<N
   .have aa:X[k]'jo=L[k]'(by have:=H.out;omega):=by
     have h1:(c k).length=k:=f.out k jo;simp only [y];rw [List.getElem_append_right jo];simp [h1]
    obtain ⟨c0,c1⟩:=V.get k jo
    rw [aa] at c0 c1
    have O:=jp (D.out k (by have:=H.out;omega))
    have ab:=jp (C.out k)
    have o:=jp (f.out k jo)
    have I:Hid (Ge (c k) (L.drop (k+1)) k X):=by
     refine ⟨L[k]'(by have:=H.out;omega),y.trans ?_⟩;have h1:(c k).length=k:=o.out;rw [jR jo,List.drop_of_length_le (l:=c k) jo,List.nil_append,List.drop_eq_getElem_cons (by have:=H.out;omega)]
    have HX:=jp V
    have ac:=(World.ownsRow.lt V g rfl).2
    generalize aq:L[k]'(by have:=H.out;omega)=ek at *
    obtain ⟨s,G⟩:=ek
    simp only at c0 c1 O
    clear V y aa D C aq f
    go_wp2
    obtain ⟨W,z⟩:∃W,W=wr.alloc (.cells #[.int .u64 s,.int .i64 G] 76):=⟨_,rfl⟩
    have d0:W.cell? ⟨wr.heap.size,0,none⟩=some (.int .u64 s):=by rw [z];simp
    have d1:W.cell? ⟨wr.heap.size,1,none⟩=some (.int .i64 G):=by rw [z];simp
    have ad:Aa w W:=by rw [z];exact hb.step_alloc _
    have ae:Hid (Ds w.heap.size g cap W X):=by rw [z];exact World.ownsRow.alloc HX.out _
    rw [<-z]
    generalize wr.heap.size=pb at *
    clear z hb c0 c1 HX
    go_loopg [6] k (fun r vi wr=>∃(i:Nat) (A:List EI),r=i/\i<=k/\vi= .int .i64 i/\Aa w wr/\wr.cell? ⟨pb,0,none⟩=some (.int .u64 s)/\wr.cell? ⟨pb,1,none⟩=some (.int .i64 G)/\Ds w.heap.size g cap wr A/\A.length=N/\Ge (c k) (L.drop (k+1)) i A/\∀x∈(c k).drop i,s<x.1)
    case atStart=>exact ⟨k,X,rfl,jo,rfl,ad,d0,d1,ae.out,M,I.out,fun x E=>by rw [List.drop_of_length_le (by have:=o.out;omega)] at E;cases E⟩
    case round=>
     obtain ⟨i,A,ar,a3,rfl,P,e0,e1,af,J,ag,ah⟩:=hrel
     have t:=jp ag
     have Q:=jp ah
     have a:=jp af
     have b:=jp J
     have au:=jF e0
     simp only at au
     clear ag ah af J I ae ad d0 d1
     cases i with
     |zero=>
      have R:∀x∈(c k).take 0,x.1<=(s,G).1:=fun x E=>by simp at E
      clear ar
      have m:Hid (A.set 0 (s,G)=c (k+1)++L.drop (k+1)):=by
       show List.set _ _ _=_;rw [t.out.fin (by have:=o.out;omega),O.out,O7 (i:=0) (by have:=o.out;omega) R Q.out]
      have k1:=World.ownsRow.frozenAt a.out (0 * 2)
      have k2:=World.ownsRow.frozenAt a.out (0 * 2+1)
      obtain ⟨j1,j2⟩:=a.out.get 0 (by rw [b.out];omega)
      generalize A[0]'(by rw [b.out];omega)=xi at *
      obtain ⟨ai,aj⟩:=xi
      simp only at j1 j2
      have av:decide ((0:Int)>0)=false:=rfl
      have aw:g<pb:=ac
      go_wp2_with fail
      go_quiet (fail)
      have p:=(jD wr).step_drewN nq
      have H9:=jp (Ds.set (BG a.out p:Ds w.heap.size g cap (wr.drewN nq) A) 0 s G)
      go_wp2
      go_roundg (N - (k+1))
      case measure=>omega
      case rel=>exact ⟨((P.step_drewN nq).step_set u _).step_set u _,k+1,_,rfl,jo,by go_num,H9.out,m.out⟩
     |succ i=>
      obtain ⟨y0,y1⟩:=a.out.get i (by rw [b.out];omega)
      have S:i<(c k).length:=by have:=o.out;omega
      rw [t.out.before (j:=i) jo jo] at y0 y1
      have aw:g<pb:=ac
      have av:decide (((i:Int)+1)>0)=true:=jL jo
      have a4:IntKind.i64.wrap ((i:Int)+1 - 1)=(i:Int):=by rw [IntKind.wrap_i64];omega
      have a5:(i:Int)+1 - 1=(i:Int):=jo
      by_cases F:s<(c k)[i].1
      .have T:decide ((c k)[i].1>s)=true:=jL F
       have k1:=World.ownsRow.frozenAt a.out ((i+1) * 2)
       have k2:=World.ownsRow.frozenAt a.out ((i+1) * 2+1)
       obtain ⟨j1,j2⟩:=a.out.get (i+1) (by rw [b.out];omega)
       have ax:=jp (t.out.step S)
       have ay:Hid (∀x∈(c k).drop i,s<x.1):=by
        intro x E;rw [List.drop_eq_getElem_cons S] at E;rcases ja.1 E with rfl|E
        .exact F
        .exact Q.out x E
       generalize A[i+1]'(by rw [b.out];omega)=xi at *
       obtain ⟨ai,aj⟩:=xi
       simp only at j1 j2
       generalize (c k)[i]=pi at *
       obtain ⟨pp,po⟩:=pi
       simp only at y0 y1 F T
       go_wp2_with fail
       go_quiet (fail)
       have p:=(jD wr).step_drewN nq
       have H9:=jp (Ds.set (BG a.out p:Ds w.heap.size g cap (wr.drewN nq) A) (i+1) pp po)
       go_wp2
       go_roundg i
       case measure=>omega
       case rel=>exact ⟨i,A.set (i+1) (pp,po),rfl,jo,rfl,((P.step_drewN nq).step_set u _).step_set u _,by rw [Ad (Or.inl jv),Ad (Or.inl jv)];exact p.cell e0,by rw [Ad (Or.inl jv),Ad (Or.inl jv)];exact p.cell e1,H9.out,by rw [List.length_set];exact b.out,ax.out,ay.out⟩
      .have T:decide ((c k)[i].1>s)=false:=jK F
       have R:∀x∈(c k).take (i+1),x.1<=(s,G).1:=by
        intro x E;obtain ⟨j,hj,rfl⟩:=List.getElem_of_mem E;simp only [jk] at hj;rw [List.getElem_take];by_cases az:j=i
        .subst az;simp only;omega
        .have:=List.pairwise_iff_getElem.1 ab.out j i jo S jo;simp only;omega
       generalize a6:(c k)[i]=pi at *
       obtain ⟨pp,po⟩:=pi
       simp only at y0 y1 F T
       have m:Hid (A.set (i+1) (s,G)=c (k+1)++L.drop (k+1)):=by
        show List.set _ _ _=_;rw [t.out.fin (by have:=o.out;omega),O.out,O7 (i:=i+1) (by have:=o.out;omega) R Q.out]
       have k1:=World.ownsRow.frozenAt a.out ((i+1) * 2)
       have k2:=World.ownsRow.frozenAt a.out ((i+1) * 2+1)
       obtain ⟨j1,j2⟩:=a.out.get (i+1) (by rw [b.out];omega)
       generalize A[i+1]'(by rw [b.out];omega)=xi at *
       obtain ⟨ai,aj⟩:=xi
       simp only at j1 j2
       go_wp2_with fail
       go_quiet (fail)
       have p:=(jD wr).step_drewN nq
       have H9:=jp (Ds.set (BG a.out p:Ds w.heap.size g cap (wr.drewN nq) A) (i+1) s G)
       go_wp2
       go_roundg (N - (k+1))
       case measure=>omega
       case rel=>exact ⟨((P.step_drewN nq).step_set u _).step_set u _,k+1,_,rfl,jo,by go_num,H9.out,m.out⟩
   .obtain rfl:k=N:=jo
    have m:Hid (X=c k):=by
     show X=c k;rw [y,List.drop_of_length_le (by have:=H.out;omega),List.append_nil]
    have HX:=jp V;clear V y D C f;go_wp2;go_ret;exact ⟨_,rfl,hb,by rw [<-H.out,<-m.out];have:=HX.out;unfold Ds sl at this;rw [M] at this;unfold AS;rw [M];exact this⟩
theorem WO (key:ByteArray) (letter:UInt8) (each:Int) (i:Nat) (b:BK):(DD key letter each i b).length=(each * b.2).toNat:=by simp [DD]
theorem L4 (key:ByteArray) (letter:UInt8) (each:Int) (B:List BK) (c:each<=3) (a:∀b∈B,0<=b.2/\b.2<=6) (n:Nat):(AW key letter each B n).length<=18 * n:=by
 induction n with
 |zero=>simp [AW]
 |succ n ih=>
  rw [AW];split
  .rename_i b d;rw [jO,WO];have f:=List.mem_of_getElem? d;obtain ⟨g,i⟩:=a b f;have:each * b.2<=3 * 6:=Int.mul_le_mul c i g jo;omega
  .omega
theorem MV (key:ByteArray) (letter:UInt8) (each:Int) (B:List BK) (v:Value) (w:World) (hP:Am w v B) (hB:AL B) (hk:key.size=16) (he1:0<=each) (he2:each<=3):
  Calls Tryz.prog 88 #[.string key,.int .u8 (letter.toNat:Int),.int .i64 each,v] w (Jp w (Dk key letter each B)):=by
 obtain ⟨i0,hi,hz0,hz1,hz2⟩:=info_parts Tryz.infoEI;obtain ⟨h8,hall⟩:=hB;have hlen:=L4 key letter each B he2 (fun b hb=>(hall b hb).2.2);obtain ⟨ao,cap,rfl,hcell⟩:=hP.open;have hris:=fun v wx hx=>Uk (AW key letter each B B.length) v wx hx (by have:=hlen B.length;omega)
 obtain ⟨X,hX⟩:∃X,X=Dk key letter each B:=⟨_,rfl⟩;rw [<-hX];rw [Dk] at hX;rw [<-hX] at hris
 have hstep:∀i (h:i<B.length),AW key letter each B (i+1)=AW key letter each B i++DD key letter each i B[i]:=fun i h=>by
  rw [AW,jG h]
 have h0:AW key letter each B 0=[]:=rfl;clear hX;generalize AW key letter each B=pt at *;go_enter Tryz.func88,Tryz.ntmps88;go_wp2;go_loopg [9,16] B.length (fun r vL n wr=>Aa w wr/\∃k:Nat,r=B.length - k/\k<=B.length/\n= .int .i64 k/\AS w.heap.size wr vL (pt k))
 case atStart=>exact ⟨jD _,0,by omega,by omega,rfl,by rw [h0];exact World.ownsRow_nil _ _ _ _⟩
 case round=>
  obtain ⟨hb,k,hr,hkB,rfl,hL⟩:=hrel;have HO:=jp hL;clear hL;by_cases hlt:k<B.length
  .obtain ⟨g,rfl,c0,c1⟩:=hcell k hlt;have c0':=hb.cell c0;have c1':=hb.cell c1;have HS:=jp (hstep k hlt);obtain ⟨hid1,hid,hw1,hw2⟩:=hall _ (jJ hlt);have hlk:=hlen k;clear hcell c0 c1 hstep hris hlen;generalize B[k]=bk at *;obtain ⟨idk,wk⟩:=bk;simp only at c0' c1' HS hid hw1 hw2 hid1;have hm1:0<=each * wk:=Int.mul_nonneg he1 hw1;have hm2:each * wk<=3 * 6:=Int.mul_le_mul he2 hw2 hw1 (by omega);obtain ⟨n,hn⟩:∃n:Nat,each * wk=(n:Int):=⟨(each * wk).toNat,by omega⟩;obtain ⟨pj,hpj⟩:∃pj:Nat->List EI,pj=fun j=>(List.range j).map fun i=>(Al key letter [i] idk,(k:Int)):=⟨_,rfl⟩
   have hp0:pj 0=[]:=by rw [hpj];rfl
   have hpl:∀j,(pj j).length=j:=fun j=>by rw [hpj];simp
   have hps:∀j,pj (j+1)=pj j++[(Al key letter [j] idk,(k:Int))]:=fun j=>by rw [hpj];simp only;rw [List.range_succ,List.map_append];rfl
   have HF:Hid (pt (k+1)=pt k++pj n):=by
    show _=_;rw [HS.out,hpj,DD,hn];rfl
   clear HS hpj;generalize pt k=L0 at *;obtain ⟨wb,hwb⟩:∃wb,wb=wr.alloc (.cells #[.string idk,.int .i64 wk] 57):=⟨_,rfl⟩;have d0:wb.cell? ⟨wr.heap.size,0,none⟩=some (.string idk):=by rw [hwb];simp
   have d1:wb.cell? ⟨wr.heap.size,1,none⟩=some (.int .i64 wk):=by rw [hwb];simp
   have hbb:Aa w wb:=by rw [hwb];exact hb.step_alloc _
   have hrow:Hid (∀g,Value.ownBlock u9=some g->w.heap.size<=g/\g<wr.heap.size):=World.ownsRow.lt HO.out;have HOb:Hid (AS w.heap.size wb u9 L0):=by rw [hwb];exact World.ownsRow.alloc HO.out _
   have hwpb:w.heap.size<=wr.heap.size:=hb.size;go_wp2;rw [<-hwb];generalize wr.heap.size=pb at *;clear hwb hb c0' c1' HO;go_loopg [9,12] n (fun r vL vk wr=>∃j:Nat,r=n - j/\j<=n/\vk= .int .i64 j/\Aa w wr/\wr.cell? ⟨pb,0,none⟩=some (.string idk)/\wr.cell? ⟨pb,1,none⟩=some (.int .i64 wk)/\AS w.heap.size wr vL (L0++pj j)/\vL.ownBlock≠some pb)
   case atStart=>exact ⟨0,by omega,by omega,rfl,hbb,d0,d1,by rw [hp0,List.append_nil];exact HOb.out,fun e=>by have:=hrow.out _ e;omega⟩
   case round=>
    obtain ⟨j,hrj,hjn,rfl,hbj,e0,e1,hOj,hne⟩:=hrel;have hplt:=jF e0;simp only at hplt;have HJ:=jp hOj;have hwj:=hbj.size;have HNE:=jp hne;clear hOj HOb hrow hbb d0 d1 hne;by_cases hjl:j<n
    .have HP:=jp (hps j);have hpjl:=hpl j;have hH:=fun wx=>F5 key letter [j] (.slice (some ⟨wx.heap.size,0,none⟩) 1 1) idk _ (Jl wx j) (by simp) (by omega) (by omega)
     clear hps hp0 hpl;generalize Al key letter [j] idk=x at *;generalize pj j=Lj at *;have hd:decide ((j:Int)<each * wk)=true:=jL (by omega);have hLL:(L0++Lj).length<=300:=by rw [jO];omega
     go_wp2_with fail;refine (hH _).mono ?_;rintro e w2 ⟨rfl,hb2⟩;have hb3:Aa wr w2:=(Aa.step_alloc (jD wr) _).trans hb2;have hbw:=hbj.trans hb3;have hO2:=jp (BG HJ.out hb3);have f0:=hb3.cell e0;have f1:=hb3.cell e1;have hw2:=hbw.size;have hs2:=hb3.size;clear hb2 hH HJ;generalize hLL2:L0++Lj=LL at *;have HLL:=jp hLL2;clear hLL2;go_wp2_with (first|(at_builtin;refine wpList_append_lies _ rfl _ _ 46 rfl w.heap.size 76 i0 (.agg #[.int .u64 0,.int .i64 0]) 2 16 Tryz.underlying46 hi hz0 hz1 hz2 rfl (by decide) _ LL.length (Bf LL) rfl ?p1 ⟨w2.heap.size,0,none⟩ 1 1 [.int .u64 x,.int .i64 (k:Int)] rfl rfl ?d1 ?d2 (by decide) ?d3 ?d4 ?d5 _ rfl ?_))
     case p1=>exact World.ownsRow.alloc hO2.out _
     try (case d1=>exact C8 _ _ _ _ _ (by simp))
     case d2=>first|exact ⟨rfl,rfl⟩|exact Df rfl rfl
     case d3=>unfold maxLen;omega
     case d4=>omega
     case d5=>first|omega|(simp;omega)
     intro g3 cap3 w3 hown3 hgrow3 hat3 hlt3;have hb4:Aa w w3:=(hbw.step_alloc _).grown hgrow3 (fun g hg=>(World.ownsRow.lt hO2.out g hg).1);have q0:w3.cell? ⟨pb,0,none⟩=some (.string idk):=JD hgrow3 ((Aa.step_alloc (jD w2) _).cell f0) HNE.out;have q1:w3.cell? ⟨pb,1,none⟩=some (.int .i64 wk):=JD hgrow3 ((Aa.step_alloc (jD w2) _).cell f1) HNE.out;have H3:=jp (AS.snoc (b:=(x,(k:Int))) hown3 rfl)
     have hn3:Hid (Value.ownBlock (.slice (some ⟨g3,0,none⟩) (LL.length+1) cap3)≠some pb):=by
      intro e;have e2:g3=pb:=by simpa [Value.ownBlock] using e
      rcases hat3 with h|h
      .exact HNE.out (by rw [h,e2])
      .first|omega|(simp at h;omega)
     clear hown3 hgrow3 hat3 hO2;go_wp2;go_roundg (n - (j+1))
     case measure=>omega
     case rel=>exact ⟨j+1,rfl,by omega,by go_num,hb4,q0,q1,by rw [HP.out,<-List.append_assoc,HLL.out];exact H3.out,hn3.out⟩
    .obtain rfl:j=n:=by omega
     have hd:decide ((j:Int)<each * wk)=false:=jK (by omega);clear hps hp0 hpl;go_wp2;go_roundg (B.length - (k+1))
     case measure=>omega
     case rel=>exact ⟨hbj,k+1,rfl,by omega,by go_num,by rw [HF.out];exact HJ.out⟩
  .obtain rfl:k=B.length:=by omega
   clear hcell hstep;go_wp2_with fail;refine (hris _ _ HO.out.ents).mono ?_;rintro e w2 ⟨v2,rfl,hb2,hO2⟩;go_wp2;go_ret;exact ⟨_,rfl,hb.trans hb2,World.ownsRow.mono hO2 hb.size⟩
def Cx (w:World) (q:Nat) (c:Ac) (a b:Value):Prop:=
 (w.cell? ⟨q,0,none⟩=some (.int .i64 c.alg)/\w.cell? ⟨q,1,none⟩=some (.int .i64 c.slots)/\w.cell? ⟨q,2,none⟩=some (.int .i64 c.points)/\w.cell? ⟨q,3,none⟩=some (.int .i64 c.probes)/\w.cell? ⟨q,4,none⟩=some (.string c.key)/\w.cell? ⟨q,5,none⟩=some (.int .i64 c.formats))/\
 w.cell? ⟨q,6,none⟩=some a/\w.cell? ⟨q,7,none⟩=some b
theorem Cx.later {a w:World} {q:Nat} {c:Ac} {b d:Value} (h:Cx a q c b d) (k:Aa a w):Cx w q c b d:=by
 obtain ⟨⟨f,g,i,l,m,n⟩,o,p⟩:=h;exact ⟨⟨k.cell f,k.cell g,k.cell i,k.cell l,k.cell m,k.cell n⟩,k.cell o,k.cell p⟩
def NO (w:World) (s:ByteArray) (e:Ending) (w':World):Prop:=e= .returned (.string s)/\Aa w w'
theorem ES {a b:ByteArray} (h:a=b):Ending.returned (.string a)= .returned (.string b):=by rw [h]
theorem Nz (q:Nat) (c:Ac) (l m:Value) (B:List BK) (x:Int) (w:World) (n:Cx w q c l m) (o:Am w l B):
  Calls Tryz.prog 49 #[.pointer (some ⟨q,0,none⟩),.int .i64 x] w (NO w (A7 B x)):=by
 obtain ⟨-,t, -⟩:=n;obtain ⟨u,cap,rfl,i⟩:=o.open;obtain ⟨X,d⟩:∃X,X=A7 B x:=⟨_,rfl⟩;rw [<-d];by_cases a:x<0
 .have b:Hid (X=ByteArray.empty):=by show X=_;rw [d,A7,if_pos a]
  have p:decide (x<0)=true:=jL a;clear i d;go_enter Tryz.func49,Tryz.ntmps49;go_wp2_with fail
  first
  |(go_ret;exact ⟨ES b.out.symm,jq⟩)
  |(go_quiet (fail);go_wp2;go_ret;exact ⟨ES b.out.symm,jq⟩)
 .obtain ⟨k,rfl⟩:∃k:Nat,x=(k:Int):=⟨x.toNat,jo⟩;have p:decide ((k:Int)<0)=false:=jK a;by_cases f:k<B.length
  .obtain ⟨g,rfl,v,y⟩:=i k f;have b:Hid (X=B[k].1):=by show X=_;rw [d,A7,if_neg a,Int.toNat_natCast,jG f];rfl
   have r:decide ((k:Int)>=(B.length:Int))=false:=jK jo;clear i d;generalize B[k].1=s at *;go_enter Tryz.func49,Tryz.ntmps49;go_wp2_with fail
   first
   |(go_ret;exact ⟨ES b.out.symm,jq⟩)
   |(go_quiet (fail);go_wp2;go_ret;exact ⟨ES b.out.symm,jq⟩)
  .have b:Hid (X=ByteArray.empty):=by show X=_;rw [d,A7,if_neg a,Int.toNat_natCast,List.getElem?_eq_none jo];rfl
   have r:decide ((k:Int)>=(B.length:Int))=true:=jL jo;clear i d;go_enter Tryz.func49,Tryz.ntmps49;go_wp2_with fail
   first
   |(go_ret;exact ⟨ES b.out.symm,jq⟩)
   |(go_quiet (fail);go_wp2;go_ret;exact ⟨ES b.out.symm,jq⟩)
theorem Oo (E:List EI) (h:Int) (a:0<E.length):A8 E h<E.length:=by
 unfold A8;split
 .assumption
 .exact a
theorem R8 (c:Ac) (E:List EI) (v:Value) (k:ByteArray) (w:World) (R:AR w v E) (hB:E.length<=65536) (H:c.OK) (hk:k.size<=4611686018427386000) (hE:0<E.length):
  Calls Tryz.prog 189 #[.agg c.cells,v,.string k] w (D9 w (C9 c E k c.probes.toNat).1):=by
 obtain ⟨aa,ab,S⟩:1<=c.probes/\c.probes<=5/\c.key.size=16:=⟨H.2.2.2.2.2.2.2.1,H.2.2.2.2.2.2.2.2.1,H.2.2.2.2.2.2.2.2.2.1⟩;have q:=fun h I hx=>Is E v h I hx hB
 have i:=fun h=>Oo E h hE
 obtain ⟨n,T⟩:∃n:Nat,c.probes=(n:Int):=⟨c.probes.toNat,jo⟩;rw [T,Int.toNat_natCast];obtain ⟨l,m⟩:∃l,l=C9 c E k:=⟨_,rfl⟩;have J:l 0=(0,0):=by rw [m];rfl
 have O:∀j,l (j+1)=if j=0\/((E.getD (A8 E (Al c.key 112 [j] k)) (0,0)).1 - Al c.key 112 [j] k) % 18446744073709551616<(l j).2 then (A8 E (Al c.key 112 [j] k),((E.getD (A8 E (Al c.key 112 [j] k)) (0,0)).1 - Al c.key 112 [j] k) % 18446744073709551616) else l j:=fun j=>by rw [m];rfl
 rw [<-m];clear m;obtain ⟨alg,s,o,K,key,b⟩:=c;simp only [Ac.cells] at *;subst T;obtain ⟨ao,cap,rfl,a⟩:=R.open;clear H;go_enter Tryz.func189,Tryz.ntmps189;go_wp2;obtain ⟨t,d⟩:∃t,t=w.alloc (.cells #[.int .i64 alg,.int .i64 s,.int .i64 o,.int .i64 (n:Int),.string key,.int .i64 b] 30):=⟨_,rfl⟩;have m3:t.cell? ⟨w.heap.size,3,none⟩=some (.int .i64 (n:Int)):=by rw [d];simp
 have m4:t.cell? ⟨w.heap.size,4,none⟩=some (.string key):=by rw [d];simp
 have z:Aa w t:=by rw [d];exact (jD w).step_alloc _
 rw [<-d];clear d;go_loopg [7,8,9] n (fun r vb vl vi wr=>Aa t wr/\∃j:Nat,r=n - j/\j<=n/\vi= .int .i64 j/\vb= .int .i64 ((l j).1:Int)/\vl= .int .u64 (l j).2)
 case atStart=>exact ⟨jD _,0,jo,jo,rfl,by rw [J];rfl,by rw [J]⟩
 case round=>
  obtain ⟨L,j,hr,ac,rfl,rfl,rfl⟩:=hrel;have n3:=L.cell m3;have n4:=L.cell m4;by_cases ad:j<n
  .have f:=jp (O j);have U:=fun I=>F5 key 112 [j] (.slice (some ⟨I.heap.size,0,none⟩) 1 1) k _ (Jl I j) js jo hk
   clear O J;generalize Al key 112 [j] k=x at *;have q:=q x;have i:=i x;generalize A8 E x=p at *;obtain ⟨g,rfl,V,c1⟩:=a p i;have W:Hid (E.getD p (0,0)=E[p]):=by show E.getD p (0,0)=E[p];rw [jV,jG i];rfl
   rw [W.out] at f;clear W a;generalize l j=mj at *;obtain ⟨mb,P⟩:=mj;simp only at f;have ae:decide ((p:Int)>=(E.length:Int))=false:=jK jo;have hd:decide ((j:Int)<(n:Int))=true:=jL jo;go_wp2_with fail;refine (U _).mono ?_;rintro e w2 ⟨rfl,A⟩;have B:Aa t w2:=(L.step_alloc _).trans A;have C:=z.trans B;have D:=AR.later R C;have X:=C.cell V;clear A U;go_wp2_with fail;refine (q _ D).mono ?_;rintro e w3 ⟨rfl,u⟩;have y:=B.trans u;have f0:=u.cell X;clear D u X V c1;generalize E[p].1=Y at *;generalize F:(Y - x) % 18446744073709551616=M at *;have af:IntKind.u64.wrap (Y - x)=M:=by rw [IntKind.wrap_u64];exact F
   clear F;by_cases G:j=0
   .subst G;rw [if_pos (Or.inl rfl)] at f;go_wp2;go_roundg (n - 1)
    case measure=>omega
    case rel=>exact ⟨y,1,rfl,jo,by go_num,by rw [f.out],by rw [f.out]⟩
   .have Z:((j:Int)==0)=false:=by rw [jI];omega
    by_cases N:M<P
    .rw [if_pos (Or.inr N)] at f;have Q:decide (M<P)=true:=jL N;go_wp2;go_roundg (n - (j+1))
     case measure=>omega
     case rel=>exact ⟨y,j+1,rfl,jo,by go_num,by rw [f.out],by rw [f.out]⟩
    .rw [if_neg (fun h=>h.elim G N)] at f;have Q:decide (M<P)=false:=jK N;go_wp2;go_roundg (n - (j+1))
     case measure=>omega
     case rel=>exact ⟨y,j+1,rfl,jo,by go_num,by rw [f.out],by rw [f.out]⟩
  .obtain rfl:j=n:=jo
   clear O J a;go_wp2;go_ret;exact ⟨rfl,z.trans L⟩
end Go.Proofs.YtpapdkhjdelfcaaGreat
