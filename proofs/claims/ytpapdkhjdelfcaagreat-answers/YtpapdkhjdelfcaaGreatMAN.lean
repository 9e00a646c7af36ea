import Derived.Test.YtpapdkhjdelfcaaGreatMAM
import Derived.Laws.StructEq
namespace Go.Proofs.YtpapdkhjdelfcaaGreat
open Go.RowKit
set_option maxRecDepth 100000
set_option maxHeartbeats 4000000
def Hn (w:jj) (q:Nat) (c:Ac) (a b:ju):Prop:=
 (w.cell? ⟨q,2,none⟩=some (.int .i64 c.alg)/\w.cell? ⟨q,3,none⟩=some (.int .i64 c.slots)/\w.cell? ⟨q,4,none⟩=some (.int .i64 c.points)/\w.cell? ⟨q,5,none⟩=some (.int .i64 c.probes)/\w.cell? ⟨q,6,none⟩=some (.string c.key)/\w.cell? ⟨q,7,none⟩=some (.int .i64 c.formats))/\
 w.cell? ⟨q,8,none⟩=some a/\w.cell? ⟨q,9,none⟩=some b
theorem Hn.later {a w:jj} {q:Nat} {c:Ac} {b d:ju} (h:Hn a q c b d) (k:Aa a w):Hn w q c b d:=by
 obtain ⟨⟨f,g,i,l,m,n⟩,o,p⟩:=h;exact ⟨⟨k.cell f,k.cell g,k.cell i,k.cell l,k.cell m,k.cell n⟩,k.cell o,k.cell p⟩
theorem Pq (q:Nat) (c:Ac) (i l:ju) (B:List BK) (x:Int) (w:jj) (m:Hn w q c i l) (n:Am w i B):
  Calls Tryz.prog 49 #[.pointer (some ⟨q,2,none⟩),.int .i64 x] w (NO w (A7 B x)):=by
 obtain ⟨-,s, -⟩:=m;obtain ⟨t,cap,rfl,f⟩:=n.open;obtain ⟨X,b⟩:∃X,X=A7 B x:=⟨_,rfl⟩;rw [<-b];by_cases a:x<0
 .have HX:Hid (X=ByteArray.empty):=by show X=_;rw [b,A7,if_pos a]
  have o:decide (x<0)=true:=jL a;clear f b;go_enter Tryz.func49,Tryz.ntmps49;go_wp2_with fail
  first
  |(go_ret;exact ⟨ES HX.out.symm,jq⟩)
  |(go_quiet (fail);go_wp2;go_ret;exact ⟨ES HX.out.symm,jq⟩)
 .obtain ⟨k,rfl⟩:∃k:Nat,x=(k:Int):=⟨x.toNat,jo⟩;have o:decide ((k:Int)<0)=false:=jK a;by_cases d:k<B.length
  .obtain ⟨g,rfl,u,v⟩:=f k d;have HX:Hid (X=B[k].1):=by show X=_;rw [b,A7,if_neg a,Int.toNat_natCast,jG d];rfl
   have p:decide ((k:Int)>=(B.length:Int))=false:=jK jo;clear f b;generalize B[k].1=r at *;go_enter Tryz.func49,Tryz.ntmps49;go_wp2_with fail
   first
   |(go_ret;exact ⟨ES HX.out.symm,jq⟩)
   |(go_quiet (fail);go_wp2;go_ret;exact ⟨ES HX.out.symm,jq⟩)
  .have HX:Hid (X=ByteArray.empty):=by show X=_;rw [b,A7,if_neg a,Int.toNat_natCast,List.getElem?_eq_none jo];rfl
   have p:decide ((k:Int)>=(B.length:Int))=true:=jL jo;clear f b;go_enter Tryz.func49,Tryz.ntmps49;go_wp2_with fail
   first
   |(go_ret;exact ⟨ES HX.out.symm,jq⟩)
   |(go_quiet (fail);go_wp2;go_ret;exact ⟨ES HX.out.symm,jq⟩)
theorem Rq (c:Ac) (E:List EI) (v:ju) (k:jt) (w:jj) (R:AR w v E) (hB:E.length<=65536) (H:c.TOK) (hk:k.size<=4611686018427386000) (hE:0<E.length):
  Calls Tryz.prog 189 #[.agg c.cells,v,.string k] w (D9 w (C9 c E k c.probes.toNat).1):=by
 obtain ⟨aa,ab,S⟩:1<=c.probes/\c.probes<=5/\c.key.size=16:=⟨H.2.2.2.2.2.2.2.1,H.2.2.2.2.2.2.2.2.1,H.2.2.2.2.2.2.2.2.2⟩;have q:=fun h I hx=>Is E v h I hx hB
 have i:=fun h=>Oo E h hE
 obtain ⟨n,T⟩:∃n:Nat,c.probes=(n:Int):=⟨c.probes.toNat,jo⟩;rw [T,Int.toNat_natCast];obtain ⟨l,m⟩:∃l,l=C9 c E k:=⟨_,rfl⟩;have J:l 0=(0,0):=by rw [m];rfl
 have O:∀j,l (j+1)=if j=0\/((E.getD (A8 E (Al c.key 112 [j] k)) (0,0)).1 - Al c.key 112 [j] k) % 18446744073709551616<(l j).2 then (A8 E (Al c.key 112 [j] k),((E.getD (A8 E (Al c.key 112 [j] k)) (0,0)).1 - Al c.key 112 [j] k) % 18446744073709551616) else l j:=fun j=>by rw [m];rfl
 rw [<-m];clear m;obtain ⟨alg,s,o,K,key,b⟩:=c;simp only [Ac.cells] at *;subst T;obtain ⟨ao,cap,rfl,a⟩:=R.open;clear H;go_enter Tryz.func189,Tryz.ntmps189;go_wp2;obtain ⟨t,d⟩:∃t,t=w.alloc (.cells #[.int .i64 alg,.int .i64 s,.int .i64 o,.int .i64 (n:Int),.string key,.int .i64 b] 30):=⟨_,rfl⟩;have m3:t.cell? ⟨w.heap.size,3,none⟩=some (.int .i64 (n:Int)):=by rw [d];simp
 have m4:t.cell? ⟨w.heap.size,4,none⟩=some (.string key):=by rw [d];simp
 have z:Aa w t:=by rw [d];exact (jD w).step_alloc _
 rw [<-d];clear d;go_loopg [7,8,9] n (fun r vb vl vi wr=>Aa t wr/\∃j:Nat,r=n - j/\j<=n/\vi= .int .i64 j/\vb= .int .i64 ((l j).1:Int)/\vl= .int .u64 (l j).2)
 case atStart=>exact ⟨jD _,0,jo,jo,rfl,by rw [J];rfl,by rw [J]⟩
 case round=>
  obtain ⟨L,j,hr,ac,rfl,rfl,rfl⟩:=hrel;have n3:=L.cell m3;have n4:=L.cell m4;by_cases ad:j<n
  .have f:=jp (O j);have U:=fun I=>F5 key 112 [j] (.slice (some ⟨I.heap.size,0,none⟩) 1 1) k _ (Jl I j) js jo hk
   clear O J;generalize Al key 112 [j] k=x at *;have q:=q x;have i:=i x;generalize A8 E x=p at *;obtain ⟨g,rfl,V,c1⟩:=a p i;have W:Hid (E.getD p (0,0)=E[p]):=by show E.getD p (0,0)=E[p];rw [jV,jG i];rfl
   rw [W.out] at f;clear W a;generalize l j=mj at *;obtain ⟨mb,P⟩:=mj;simp only at f;have ae:decide ((p:Int)>=(E.length:Int))=false:=jK jo;have hd:decide ((j:Int)<(n:Int))=true:=jL jo;go_wp2_with fail;refine (U _).mono ?_;rintro e w2 ⟨rfl,A⟩;have B:Aa t w2:=(L.step_alloc _).trans A;have C:=z.trans B;have D:=AR.later R C;have X:=C.cell V;clear A U;go_wp2_with fail;refine (q _ D).mono ?_;rintro e w3 ⟨rfl,u⟩;have y:=B.trans u;have f0:=u.cell X;clear D u X V c1;generalize E[p].1=Y at *;generalize F:(Y - x) % 18446744073709551616=M at *;have af:IntKind.u64.wrap (Y - x)=M:=by rw [IntKind.wrap_u64];exact F
   clear F;by_cases G:j=0
   .subst G;rw [if_pos (Or.inl rfl)] at f;go_wp2;go_roundg (n - 1)
    case measure=>omega
    case rel=>exact ⟨y,1,rfl,jo,by go_num,by rw [f.out],by rw [f.out]⟩
   .have Z:((j:Int)==0)=false:=by rw [jI];omega
    by_cases N:M<P
    .rw [if_pos (Or.inr N)] at f;have Q:decide (M<P)=true:=jL N;go_wp2;go_roundg (n - (j+1))
     case measure=>omega
     case rel=>exact ⟨y,j+1,rfl,jo,by go_num,by rw [f.out],by rw [f.out]⟩
    .rw [if_neg (fun h=>h.elim G N)] at f;have Q:decide (M<P)=false:=jK N;go_wp2;go_roundg (n - (j+1))
     case measure=>omega
     case rel=>exact ⟨y,j+1,rfl,jo,by go_num,by rw [f.out],by rw [f.out]⟩
  .obtain rfl:j=n:=jo
   clear O J a;go_wp2;go_ret;exact ⟨rfl,z.trans L⟩
theorem Qx (c:Ac) (v:ju) (k:jt) (w:jj) (t:AR w v []) (q:c.TOK) (y:k.size<=4611686018427386000):
  Calls Tryz.prog 189 #[.agg c.cells,v,.string k] w (D9 w 0):=by
 obtain ⟨z,A,u⟩:1<=c.probes/\c.probes<=5/\c.key.size=16:=⟨q.2.2.2.2.2.2.2.1,q.2.2.2.2.2.2.2.2.1,q.2.2.2.2.2.2.2.2.2⟩;have f:=fun h i hx=>Is [] v h i hx js
 have m:∀h,A8 [] h=0:=fun _=>rfl
 obtain ⟨alg,l,g,a,key,b⟩:=c;simp only [Ac.cells] at *;obtain ⟨D,cap,rfl, -⟩:=t.open;have B:∀i:jj,Calls Tryz.prog 142 #[.string key,.int .u8 112,.slice (some ⟨i.heap.size,0,none⟩) 1 1,.string k] (i.alloc (.cells #[.int .i64 0] 3)) (Kd (i.alloc (.cells #[.int .i64 0] 3)) (Al key 112 [0] k)):=fun i=>F5 key 112 [0] (.slice (some ⟨i.heap.size,0,none⟩) 1 1) k _ (Jl i 0) js jo y
 generalize Al key 112 [0] k=x at *;have f:=f x;rw [m] at f;clear q m;have E:decide ((0:Int)<a)=true:=jL jo;go_enter Tryz.func189,Tryz.ntmps189;go_wp2;obtain ⟨n,d⟩:∃n,n=w.alloc (.cells #[.int .i64 alg,.int .i64 l,.int .i64 g,.int .i64 a,.string key,.int .i64 b] 30):=⟨_,rfl⟩;have F:n.cell? ⟨w.heap.size,3,none⟩=some (.int .i64 a):=by rw [d];simp
 have G:n.cell? ⟨w.heap.size,4,none⟩=some (.string key):=by rw [d];simp
 have r:Aa w n:=by rw [d];exact (jD w).step_alloc _
 rw [<-d];clear d;refine wp_loop_rounds 1 ?_;rw [rounds_succ];go_wp2_with fail;refine (B _).mono ?_;rintro e C ⟨rfl,o⟩;have p:Aa w C:=(r.step_alloc _).trans o;clear o;go_wp2_with fail;refine (f _ (t.later p)).mono ?_;rintro e H ⟨rfl,s⟩;go_wp2;go_ret;exact ⟨rfl,p.trans s⟩
theorem TD (q:Nat) (c:Ac) (O n:ju) (E:List EI) (k:jt) (w:jj) (P:Hn w q c O n) (v:AR w n E) (J:E.length<=65536) (y:c.TOK) (z:k.size<=4611686018427386000):
  Calls Tryz.prog 165 #[.pointer (some ⟨q,2,none⟩),.string k] w (D9 w (Dc c E k)):=by
 obtain ⟨⟨p,A,B,C,D,F⟩,V,G⟩:=P;have K:c.key.size=16:=y.2.2.2.2.2.2.2.2.2;obtain ⟨X,o⟩:∃X,X=Dc c E k:=⟨_,rfl⟩;rw [<-o];by_cases r:c.alg=4
 .have H:∀l,AR l n E->Calls Tryz.prog 189 #[.agg c.cells,n,.string k] l (D9 l X):=by
   intro l hx;by_cases g:E.length=0
   .have:E=[]:=jS g;subst this;rw [o,Dc,if_pos (show ([]:List EI).length=0 from rfl)];exact Qx c n k l hx y z
   .rw [o,Dc,if_neg g,if_pos r];exact Rq c E n k l hx J y z jo
  clear o
  obtain ⟨alg,i,b,d,key,a⟩:=c
  simp only [Ac.cells] at *
  subst r
  go_enter Tryz.func165,Tryz.ntmps165
  go_wp2_with fail
  go_region_held3 (fun w'=>Aa w w'/\w'.cell? ⟨q,2,none⟩=some (.int .i64 4)/\w'.cell? ⟨q,3,none⟩=some (.int .i64 i)/\w'.cell? ⟨q,4,none⟩=some (.int .i64 b)/\w'.cell? ⟨q,5,none⟩=some (.int .i64 d)/\w'.cell? ⟨q,6,none⟩=some (.string key)/\w'.cell? ⟨q,7,none⟩=some (.int .i64 a)/\w'.cell? ⟨q,9,none⟩=some n) ((exact ⟨jq,Aa.cell jq p,Aa.cell jq A,Aa.cell jq B,Aa.cell jq C,Aa.cell jq D,Aa.cell jq F,Aa.cell jq G⟩)) ((go_at_call 189;refine (H _ (v.later jq)).mono ?_;rintro e L ⟨rfl,f⟩))
  all_goals
   go_wp2
   go_ret
   exact ⟨rfl,jq⟩
 .have Q:(c.alg==4)=false:=by rw [jI];exact r
  have M:=fun l=>F5 c.key 107 [] (.slice none 0 0) k l (Kb l) ji jo z
  have N:=He c.key 107 [] k;by_cases u:c.alg=2
  .have m:X=A8 E (Al c.key 107 [] k):=by
    rw [o,Dc];by_cases g:E.length=0
    .have:E=[]:=jS g;subst this;rfl
    .rw [if_neg g,if_neg r,if_pos u]
   have s:=fun l hx=>Is E n (Al c.key 107 [] k) l hx J
   rw [<-m] at s
   generalize Al c.key 107 [] k=x at *
   clear o m
   obtain ⟨alg,i,b,d,key,a⟩:=c
   simp only at *
   subst u
   go_enter Tryz.func165,Tryz.ntmps165
   go_wp2_with fail
   refine (M _).mono ?_
   rintro e L ⟨rfl,f⟩
   have R:=f.cell p
   have S:=f.cell G
   go_wp2_with fail
   refine (s _ (v.later f)).mono ?_
   rintro e T ⟨rfl,I⟩
   go_wp2
   go_ret
   exact ⟨rfl,f.trans I⟩
  .have U:(c.alg==2)=false:=by rw [jI];exact u
   have m:(X:Int)=Cv (Al c.key 107 [] k) (E.length:Int):=by
    rw [o,Dc,Cv];by_cases g:E.length=0
    .rw [if_pos g,if_pos jo];rfl
    .rw [if_neg g,if_neg r,if_neg u,if_neg jo];exact Int.toNat_of_nonneg (Int.emod_nonneg _ jo)
   have t:=fun l=>Kp (Al c.key 107 [] k) (E.length:Int) l N.1 N.2 jo jo
   rw [<-m] at t;generalize Al c.key 107 [] k=x at *;clear o m;obtain ⟨W,cap,rfl, -⟩:=v.open;obtain ⟨alg,i,b,d,key,a⟩:=c;simp only at *;go_enter Tryz.func165,Tryz.ntmps165;go_wp2_with fail;refine (M _).mono ?_;rintro e L ⟨rfl,f⟩;have R:=f.cell p;have S:=f.cell G;go_wp2_with fail;refine (t _).mono ?_;rintro e T ⟨rfl,rfl⟩;go_wp2;go_ret;exact ⟨rfl,f⟩
theorem Vh (q:Nat) (c:Ac) (m n:ju) (B:List BK) (E:List EI) (k:jt) (w:jj) (r:Hn w q c m n) (A:Am w m B) (u:AR w n E) (C:E.length<=65536) (D:c.TOK) (F:k.size<=4611686018427386000):
  Calls Tryz.prog 113 #[.pointer (some ⟨q,2,none⟩),.string k] w (EH w (GR c B E k)):=by
 have i:=TD q c m n E k w r u C D F;have a:=fun x v (h:Aa w v)=>Pq q c m n B x v (r.later h) (A.later h)
 obtain ⟨X,f⟩:∃X,X=GR c B E k:=⟨_,rfl⟩;rw [<-f];rw [GR] at f;generalize Dc c E k=p at *;obtain ⟨-, -,y⟩:=r;obtain ⟨K,cap,rfl,b⟩:=u.open;have G:decide ((p:Int)<0)=false:=jK jo;by_cases l:p<E.length
 .rw [jG l] at f;simp only at f;obtain ⟨g,rfl,H,I⟩:=b p l;clear b H;generalize E[p].2=o at *;have a:=a o;generalize A7 B o=L at *;subst f;have s:decide ((p:Int)>=(E.length:Int))=false:=jK jo;go_enter Tryz.func113,Tryz.ntmps113;go_wp2_with fail;refine i.mono ?_;rintro e z ⟨rfl,d⟩;have J:=d.cell y;have M:=d.cell I;have a:=a z d;clear i;go_wp2_with fail
  first
  |refine a.mono ?_
  |(go_quiet (fail);go_wp2_with fail;refine (a.mono ?_))
  rintro e N ⟨rfl,t⟩;go_wp2;go_ret2;exact ⟨rfl,d.trans t⟩
 .rw [List.getElem?_eq_none jo] at f;simp only at f;subst f;clear b a;have s:decide ((p:Int)>=(E.length:Int))=true:=jL jo;go_enter Tryz.func113,Tryz.ntmps113;go_wp2_with fail;refine i.mono ?_;rintro e z ⟨rfl,d⟩;have J:=d.cell y;go_wp2_with fail
  first
  |(go_ret2;exact ⟨rfl,d⟩)
  |(go_quiet (fail);go_wp2;go_ret2;exact ⟨rfl,jq⟩)
def CT (B a:List BK) (e:EI):EI:=(e.1,Dr a (A7 B e.2))
def Xb (w:jj) (L:List EI) (e:Ending) (w':jj):Prop:=∃v,e= .returned v/\Aa w w'/\AS w.heap.size w' v L
theorem OX (q:Nat) (c:Ac) (S vE T:ju) (B d:List BK) (E:List EI) (w:jj) (hT:Hn w q c S vE) (hP:Am w S B) (hE:AR w vE E) (G:Am w T d) (U:d.length<=9) (H:E.length<=65536):
  Calls Tryz.prog 155 #[.pointer (some ⟨q,2,none⟩),T] w (Xb w (E.map (CT B d))):=by
 obtain ⟨i0,hi,I,J,K⟩:=info_parts Tryz.infoEI;have HT:=jp hT;have HP:=jp hP;have V:=jp G;obtain ⟨-, -,t9⟩:=hT;obtain ⟨aE,M,rfl,A⟩:=hE.open;clear hP G;go_enter Tryz.func155,Tryz.ntmps155;go_wp2_with (first|(at_make;refine wpList_make_own _ rfl _ _ 46 rfl w.heap.size 76 i0 (.agg #[.int .u64 0,.int .i64 0]) 2 Tryz.underlying46 hi I J _ _ _ E.length rfl rfl ?b1 ?b2 ?b3 ?b4 ?_))
 case b1=>rfl
 case b2=>rw [K];omega
 case b3=>unfold maxLen;omega
 case b4=>exact jH _
 intro w1 l f;have C:Aa w w1:=(jD _).grown f (fun g W=>by cases W);have z:AS w.heap.size w1 (.slice (some ⟨w.heap.size,0,none⟩) 0 E.length) []:=l;have s9:=C.cell t9;clear f l;generalize (Value.slice (some ⟨w.heap.size,0,none⟩) 0 E.length)=v1 at *;go_wp2;go_loopg [5,20] E.length (fun r u n wr=>Aa w wr/\∃(k:Nat) (v:ju),v=u/\r=E.length - k/\k<=E.length/\n= .int .i64 k/\AS w.heap.size wr v ((E.take k).map (CT B d)))
 case atStart=>exact ⟨C,0,_,rfl,jo,jo,rfl,by simpa using z⟩
 case round=>
  obtain ⟨D,k,v,rfl,hr,hk,rfl,X⟩:=hrel;have Y:=D.size;have ae:((E.take k).map (CT B d)).length<=65536:=by rw [je];exact jX (List.length_take_le' _ _) H
  have t:=jp X;have Z:Hid (v.ownBlock≠some wr.heap.size):=fun e=>by have:=(World.ownsRow.lt X _ e).2;omega
  clear C z X s9;by_cases N:k<E.length
  .obtain ⟨g,rfl,c0,c1⟩:=A k N;have af:=D.cell c0;have ag:=D.cell c1
   have HS:Hid ((E.take (k+1)).map (CT B d)=(E.take k).map (CT B d)++[(E[k].1,Dr d (A7 B E[k].2))]):=by
    show _=_;rw [jQ N,List.map_append];rfl
   have O:=fun wx h1 h2=>Pq q c S (.slice (some ⟨g,0,none⟩) E.length M) B E[k].2 wx h1 h2
   have P:=fun wx h=>J8 d T (A7 B E[k].2) wx h U
   clear A c0 c1;generalize A7 B E[k].2=Q at *;generalize E[k].1=pt at *;generalize E[k].2=ow at *;generalize (E.take k).map (CT B d)=L at *;go_wp2_with fail;refine (O _ (HT.out.later (D.step_alloc _)) (HP.out.later (D.step_alloc _))).mono ?_;rintro e w2 ⟨rfl,x⟩;have X2:=(Ae.new wr 76 #[.int .u64 pt,.int .i64 ow]).bel x;have m:=jp ((D.step_alloc _).trans x);replace t:=jp (CV (World.ownsRow.alloc t.out (.cells #[.int .u64 pt,.int .i64 ow] 76)) x);have R:=jp X2;clear X2 x;go_wp2_with fail;refine (P _ (V.out.later m.out)).mono ?_;rintro e w3 ⟨rfl,y⟩;have F:=R.out.bel y;have o:=jp (m.out.trans y);replace t:=jp (CV t.out y);have x0:=F.cell 0 rfl;have x1:=F.cell 1 rfl;have f0:=F.free 0;have f1:=F.free 1;have ah:=o.out.size;have ad:=F.lt;replace t:=jp (ownsRow_setCell_other t.out Z.out (a:=⟨wr.heap.size,1,none⟩) (.int .i64 (Dr d Q)));have aa:=jp (o.out.step_set (p:=⟨wr.heap.size,1,none⟩) Y (.int .i64 (Dr d Q)));clear F y R m o O P;go_wp2_with (first|(at_builtin;refine wpList_append_own _ rfl _ _ 46 rfl w.heap.size 76 i0 (.agg #[.int .u64 0,.int .i64 0]) 2 16 Tryz.underlying46 hi I J K rfl ji _ L.length (Bf L) rfl ?p1a ⟨w3.heap.size,0,none⟩ 1 1 [.int .u64 pt,.int .i64 (Dr d Q)] rfl rfl ?da1 ?da2 ?da3 ?da4 ?da5 ?_))
   case p1a=>exact World.ownsRow.alloc t.out _
   try (case da1=>exact C8 _ _ _ _ _ js)
   case da2=>first|exact ⟨rfl,rfl⟩|exact Df rfl rfl|(intro u hu;simp at hu;rcases hu with rfl|rfl <;>rfl)
   case da3=>unfold maxLen;omega
   case da4=>omega
   case da5=>first|omega|(simp;omega)
   intro v5 w5 s i _;have ab:Aa w w5:=(aa.out.step_alloc _).grown i (fun g W=>(World.ownsRow.lt t.out g W).1);have ac:Hid (AS w.heap.size w5 v5 (L++[(pt,(Dr d Q))])):=AS.snoc (b:=(pt,(Dr d Q))) s rfl;clear s i;go_wp2;go_roundg (E.length - (k+1))
   case measure=>omega
   case rel=>exact ⟨ab,k+1,_,rfl,rfl,jo,by go_num,by rw [HS.out];exact ac.out⟩
  .have HE:Hid ((E.take k).map (CT B d)=E.map (CT B d)):=by rw [jR jo];rfl
   clear A;go_wp2;go_ret;exact ⟨_,rfl,D,by rw [<-HE.out];exact t.out⟩
def G9 (g:Nat) (c:Ac) (B:List BK) (E:List EI):BitVec 32:=CB (AK (DS 1 g c B E))
def KY (w:jj) (x:BitVec 32) (e:Ending) (w':jj):Prop:=e= .returned (.int .u32 (x.toNat:Int))/\Aa w w'
theorem On (f g:Nat) (c:Ac) (B:List BK) (E:List EI) (o p:ju) (w:jj) (y:g<=4611686018427387904) (q:c.TOK) (v:Am w o B) (r:AL B) (x:AR w p E) (b:∀e∈E,Fp e) (a:E.length<=65536):
  Calls Tryz.prog 156 #[D8 f g c o p] w (KY w (G9 g c B E)):=by
 have d:=fun s z A=>M9 1 g c B E o p s jo y q z r A b a
 have C:=Jb (f:=1) (g:=g) (E:=E) q.2.2.2.2.2.2.2.2.2 r a;have i:=fun s=>PU (Ai (AK (DS 1 g c B E))) s (by simp [Ai,ByteArray.size];omega)
 rw [Fs] at i;unfold G9;generalize AK (DS 1 g c B E)=H at *;have D:=jp v;have F:=jp (Bv.of x);unfold DW at d;unfold D8;obtain ⟨alg,t,m,n,key,k⟩:=c;simp only at *;clear q v x r b;go_enter Tryz.func156,Tryz.ntmps156;go_wp2_with fail;refine (d _ (D.out.later jq) (F.out.later jq)).mono ?_;rintro e G ⟨rfl,l⟩;have u:Hid (Aa w G):=((jD w).step_alloc _).trans l;clear l;go_wp2_with fail;refine (i _).mono ?_;rintro e I ⟨rfl,rfl⟩;go_wp2;go_ret;exact ⟨rfl,u.out⟩
theorem Tryz.uTE:Tryz.prog.underlying 76=some (.struct (Tryz.prog.fieldsOf 76)):=by kernel_rfl
theorem Tryz.sTE:Tryz.prog.stoodInHeld 76=false:=by kernel_rfl
theorem NX (w:jj) (a b u v:Int):(binOp .eql 76 (.agg #[.int .u64 a,.int .i64 b]) (.agg #[.int .u64 u,.int .i64 v])).run Tryz.prog w= .ok (.bool (a==u && b==v)) w:=by
 rw [run_eql_struct,run_equalIn_struct w 9999 _ _ _ Tryz.uTE Tryz.sTE];simp [go_sem];by_cases c:a=u <;>by_cases d:b=v <;>simp [c,d]
def Cu:List EI->List EI->Nat
 |x::a,y::b=>if x=y then Cu a b+1 else 0
 |_,_=>0
theorem JN:∀(k:Nat) (a b:List EI) (_:k<=a.length) (_:k<=b.length),(∀i (f:i<a.length) (g:i<b.length),i<k->a[i]=b[i])->(∀(f:k<a.length) (g:k<b.length),a[k]≠b[k])->Cu a b=k:=by
 intro k
 induction k with
 |zero=>
  intro a b l m _ d
  match a,b with
  |[],_=>rfl
  |_::_,[]=>rfl
  |x::a,y::b=>
   have n:x≠y:=d js js;rw [Cu,if_neg n]
 |succ k ih=>
  intro a b l m c d
  match a,b with
  |[],_=>simp at l
  |_::_,[]=>simp at m
  |x::a,y::b=>
   have n:x=y:=c 0 js js jo;rw [Cu,if_pos n,ih a b (by simpa using l) (by simpa using m) (fun i f g o=>c (i+1) (by simpa using f) (by simpa using g) jo) (fun f g=>d (by simpa using f) (by simpa using g))]
theorem RB (A B:List EI) (E F:ju) (w:jj) (N:Bv w E A) (O:Bv w F B) (P:A.length<=65536) (Q:B.length<=65536):
  Calls Tryz.prog 157 #[E,F] w (D9 w (Cu A B)):=by
 obtain ⟨Z,G,rfl,b⟩:=N;obtain ⟨aB,H,rfl,c⟩:=O;go_enter Tryz.func157,Tryz.ntmps157;go_wp2;go_loopg [5] A.length (fun r n wr=>Aa w wr/\∃k:Nat,r=A.length - k/\n= .int .i64 k/\k<=A.length/\k<=B.length/\∀i (o:i<A.length) (p:i<B.length),i<k->A[i]=B[i])
 case atStart=>exact ⟨jD _,0,jo,rfl,jo,jo,fun i _ _ h=>by omega⟩
 case round=>
  obtain ⟨s,k,hr,rfl,f,g,d⟩:=hrel;have l:=jp d;clear d;by_cases o:k<A.length
  .by_cases p:k<B.length
   .obtain ⟨ga,oa,rfl,I,J⟩:=b k o;obtain ⟨gb,ob,rfl,K,L⟩:=c k p;have t:=s.cell I;have u:=s.cell J;have v:=s.cell K;have x:=s.cell L
    have R:Hid (A[k]=B[k]->∀i (o:i<A.length) (p:i<B.length),i<k+1->A[i]=B[i]):=fun y i o p hi=>by
     by_cases z:i=k
     .subst z;exact y
     .exact l.out i o p jo
    have S:Hid (A[k]≠B[k]->Cu A B=k):=fun y=>JN k A B f g l.out (fun _ _=>y)
    have q:decide ((k:Int)<A.length)=true:=jL jo;have C:decide ((k:Int)<B.length)=true:=jL jo;clear b c I J K L l;have m:Hid (A[k]=B[k]↔A[k].1=B[k].1/\A[k].2=B[k].2):=Prod.ext_iff;generalize A[k]=T at *;generalize B[k]=U at *;obtain ⟨V,W⟩:=T;obtain ⟨X,Y⟩:=U;simp only at t u v x m;have M:=NX;cases hx:(V==X && W==Y)
    .have a : Hid (Cu A B = k) := S.out (fun e => by
       have := m.out.1 e
       rw [this.1, this.2] at hx
       simp at hx)
     go_wp2_with fail
     go_quiet (fail)
     go_wp2
     go_ret
     exact ⟨BO (by rw [a.out]),jq⟩
    .have D:=jp (R.out (m.out.2 (by simpa using hx)));go_wp2_with fail;go_quiet (fail);go_wp2;go_roundg (A.length - (k+1))
     case measure=>omega
     case rel=>exact ⟨jq,k+1,rfl,by go_num,jo,jo,D.out⟩
   .have q:decide ((k:Int)<A.length)=true:=jL jo;have C:decide ((k:Int)<B.length)=false:=jK jo;have a:Hid (Cu A B=k):=JN k A B f g l.out (fun _ h=>absurd h p);clear b c l;go_wp2_with fail;go_quiet (fail);go_wp2;go_ret;exact ⟨BO (by rw [a.out]),jq⟩
  .have q:decide ((k:Int)<A.length)=false:=jK jo;have a:Hid (Cu A B=k):=JN k A B f g l.out (fun h _=>absurd h o);clear b c l;go_wp2_with fail;go_quiet (fail);go_wp2;go_ret;exact ⟨BO (by rw [a.out]),jq⟩
def EE (a b:List EI):Nat:=Cu a.reverse b.reverse
theorem Mj (k:Nat) (a b:List EI) (g:k<=a.length) (l:k<=b.length) (h:∀i (c:i<a.length) (d:i<b.length),i<k->a[a.length - 1 - i]=b[b.length - 1 - i]) (f:∀(c:k<a.length) (d:k<b.length),a[a.length - 1 - k]≠b[b.length - 1 - k]):EE a b=k:=by
 refine JN k _ _ (by simpa using g) (by simpa using l) (fun i c d m=>?_) (fun c d=>?_)
 .rw [List.getElem_reverse,List.getElem_reverse];exact h i (by simpa using c) (by simpa using d) m
 .rw [List.getElem_reverse,List.getElem_reverse];exact f (by simpa using c) (by simpa using d)
theorem Wm (A B:List EI) (E F:ju) (w:jj) (N:Bv w E A) (O:Bv w F B) (P:A.length<=65536) (Q:B.length<=65536):
  Calls Tryz.prog 158 #[E,F] w (D9 w (EE A B)):=by
 obtain ⟨Z,G,rfl,b⟩:=N;obtain ⟨aB,H,rfl,c⟩:=O;go_enter Tryz.func158,Tryz.ntmps158;go_wp2;go_loopg [5] A.length (fun r n wr=>Aa w wr/\∃k:Nat,r=A.length - k/\n= .int .i64 k/\k<=A.length/\k<=B.length/\∀i (o:i<A.length) (p:i<B.length),i<k->A[A.length - 1 - i]=B[B.length - 1 - i])
 case atStart=>exact ⟨jD _,0,jo,rfl,jo,jo,fun i _ _ h=>by omega⟩
 case round=>
  obtain ⟨s,k,hr,rfl,f,g,d⟩:=hrel;have l:=jp d;clear d;by_cases o:k<A.length
  .by_cases p:k<B.length
   .obtain ⟨ga,oa,rfl,I,J⟩:=b (A.length - 1 - k) jo;obtain ⟨gb,ob,rfl,K,L⟩:=c (B.length - 1 - k) jo;have t:=s.cell I;have u:=s.cell J;have v:=s.cell K;have x:=s.cell L
    have R:Hid (A[A.length - 1 - k]=B[B.length - 1 - k]->∀i (o:i<A.length) (p:i<B.length),i<k+1->A[A.length - 1 - i]=B[B.length - 1 - i]):=fun y i o p hi=>by
     by_cases z:i=k
     .subst z;exact y
     .exact l.out i o p jo
    have S:Hid (A[A.length - 1 - k]≠B[B.length - 1 - k]->EE A B=k):=fun y=>Mj k A B f g l.out (fun _ _=>y)
    have q:decide ((k:Int)<A.length)=true:=jL jo;have C:decide ((k:Int)<B.length)=true:=jL jo;clear b c I J K L l;have m:Hid (A[A.length - 1 - k]=B[B.length - 1 - k]↔A[A.length - 1 - k].1=B[B.length - 1 - k].1/\A[A.length - 1 - k].2=B[B.length - 1 - k].2):=Prod.ext_iff;generalize A[A.length - 1 - k]=T at *;generalize B[B.length - 1 - k]=U at *;obtain ⟨V,W⟩:=T;obtain ⟨X,Y⟩:=U;simp only at t u v x m;have M:=NX;have u1:(A.length:Int) - 1 - (k:Int)=((A.length - 1 - k:Nat):Int):=jo
    have u2:(B.length:Int) - 1 - (k:Int)=((B.length - 1 - k:Nat):Int):=jo
    have w1:IntKind.i64.wrap ((A.length:Int) - 1)=(A.length:Int) - 1:=by rw [IntKind.wrap_i64];omega
    have w2:IntKind.i64.wrap ((B.length:Int) - 1)=(B.length:Int) - 1:=by rw [IntKind.wrap_i64];omega
    have w3:IntKind.i64.wrap ((A.length:Int) - 1 - (k:Int))=((A.length - 1 - k:Nat):Int):=by rw [u1,IntKind.wrap_i64];omega
    have w4:IntKind.i64.wrap ((B.length:Int) - 1 - (k:Int))=((B.length - 1 - k:Nat):Int):=by rw [u2,IntKind.wrap_i64];omega
    have i1:A.length - 1 - k<A.length:=jo
    have i2:B.length - 1 - k<B.length:=jo
    generalize A.length - 1 - k=ka at *;generalize B.length - 1 - k=kb at *;clear u1 u2;cases hx:(V==X && W==Y)
    .have a : Hid (EE A B = k) := S.out (fun e => by
       have := m.out.1 e
       rw [this.1, this.2] at hx
       simp at hx)
     go_wp2_with fail
     go_quiet (fail)
     go_wp2
     go_ret
     exact ⟨BO (by rw [a.out]),jq⟩
    .have D:=jp (R.out (m.out.2 (by simpa using hx)));go_wp2_with fail;go_quiet (fail);go_wp2;go_roundg (A.length - (k+1))
     case measure=>omega
     case rel=>exact ⟨jq,k+1,rfl,by go_num,jo,jo,D.out⟩
   .have q:decide ((k:Int)<A.length)=true:=jL jo;have C:decide ((k:Int)<B.length)=false:=jK jo;have a:Hid (EE A B=k):=Mj k A B f g l.out (fun _ h=>absurd h p);clear b c l;go_wp2_with fail;go_quiet (fail);go_wp2;go_ret;exact ⟨BO (by rw [a.out]),jq⟩
  .have q:decide ((k:Int)<A.length)=false:=jK jo;have a:Hid (EE A B=k):=Mj k A B f g l.out (fun h _=>absurd h o);clear b c l;go_wp2_with fail;go_quiet (fail);go_wp2;go_ret;exact ⟨BO (by rw [a.out]),jq⟩
theorem SH (O:List EI) (k a:Nat) (h:k<O.length):(O.take (k+1)).take a=if k<a then (O.take k).take a++[O[k]] else (O.take k).take a:=by
 rw [List.take_take,List.take_take];split
 .rename_i b;rw [Nat.min_eq_right jo,Nat.min_eq_right jo,jQ h]
 .rename_i b;rw [Nat.min_eq_left jo,Nat.min_eq_left jo]
theorem YD (O:List EI) (k d:Nat) (h:k<O.length):(O.take (k+1)).drop d=if d<=k then (O.take k).drop d++[O[k]] else (O.take k).drop d:=by
 rw [jQ h];have b:(O.take k).length=k:=by rw [jk];omega
 split
 .rename_i a;rw [List.drop_append_of_le_length jo]
 .rename_i a;rw [List.drop_of_length_le jx,List.drop_of_length_le jo]
def Gj (ah bh:Nat) (M O:List EI):List EI:=(O.take ah++M)++O.drop (O.length - bh)
theorem XW (q ah bh:Nat) (T vO:ju) (M O:List EI) (w:jj) (c4:w.cell? ⟨q,4,none⟩=some (.int .i64 (ah:Int))) (c5:w.cell? ⟨q,5,none⟩=some (.int .i64 (bh:Int))) (c6:w.cell? ⟨q,6,none⟩=some T) (hM:AR w T M) (hO:AR w vO O) (ad:M.length<=65536) (ae:O.length<=65536) (ha:ah<=65536) (af:bh<=65536):
  Calls Tryz.prog 161 #[.pointer (some ⟨q,0,none⟩),vO] w (Jp w (Gj ah bh M O)):=by
 obtain ⟨U,V,y,z,A⟩:=info_parts Tryz.infoEI;obtain ⟨aO,ac,rfl,l⟩:=hO.open;have HM:=jp hM.src;clear hM hO;go_enter Tryz.func161,Tryz.ntmps161;go_wp2;go_loopg [5,12] O.length (fun r u n wr=>Aa w wr/\∃(k:Nat) (v:ju),v=u/\r=O.length - k/\k<=O.length/\n= .int .i64 k/\AS w.heap.size wr v ((O.take k).take ah))
 case atStart=>exact ⟨jD _,0,_,rfl,jo,jo,rfl,by simpa [AS,Bf] using World.ownsRow_nil w w.heap.size 76 2⟩
 case round=>
  obtain ⟨d,k,v,rfl,hr,hk,rfl,K⟩:=hrel;have B:=d.size;have t:((O.take k).take ah).length<=200000:=by rw [jk];have:=List.length_take_le' k O;omega
  have i:=jp K;have J:=d.cell c4;have s5:=d.cell c5;have s6:=d.cell c6;clear K;by_cases m:k<O.length
  .obtain ⟨g,rfl,N,P⟩:=l k m;have C:=d.cell N;have D:=d.cell P;have x:Hid ((O.take (k+1)).take ah=if k<ah then (O.take k).take ah++[O[k]] else (O.take k).take ah):=SH O k ah m;clear l N P;generalize O[k]=W at *;obtain ⟨pt,E⟩:=W;simp only at C D;generalize (O.take k).take ah=L at *;have X:q≠wr.heap.size:=by have:=jF J;simp only at this;omega
   have Y:q<wr.heap.size:=jF J;by_cases o:k<ah
   .rw [if_pos o] at x;have F:decide ((k:Int)<(ah:Int))=true:=jL jo;go_wp2_with (first|(at_builtin;refine wpList_append_own _ rfl _ _ 46 rfl w.heap.size 76 U (.agg #[.int .u64 0,.int .i64 0]) 2 16 Tryz.underlying46 V y z A rfl ji _ L.length (Bf L) rfl ?p1a ⟨wr.heap.size+1,0,none⟩ 1 1 [.int .u64 pt,.int .i64 E] rfl rfl ?da1 ?da2 ?da3 ?da4 ?da5 ?_))
    case p1a=>exact (World.ownsRow.alloc (World.ownsRow.alloc i.out _) _)
    try (case da1=>exact C8 _ _ _ _ _ js)
    case da2=>first|exact ⟨rfl,rfl⟩|exact Df rfl rfl|(intro u Q;simp at Q;rcases Q with rfl|rfl <;>rfl)
    case da3=>unfold maxLen;omega
    case da4=>omega
    case da5=>first|omega|(simp;omega)
    intro Z R c a _;have G:Aa w R:=((d.step_alloc _).step_alloc _).grown a (fun g S=>(World.ownsRow.lt i.out g S).1);have H:Hid (AS w.heap.size R Z (L++[(pt,E)])):=AS.snoc (b:=(pt,E)) c rfl;clear c a;go_wp2;go_roundg (O.length - (k+1))
    case measure=>omega
    case rel=>exact ⟨G,k+1,_,rfl,rfl,jo,by go_num,by rw [x.out];exact H.out⟩
   .rw [if_neg o] at x;have F:decide ((k:Int)<(ah:Int))=false:=jK jo;go_wp2;go_roundg (O.length - (k+1))
    case measure=>omega
    case rel=>exact ⟨d.step_alloc _,k+1,_,rfl,rfl,jo,by go_num,by rw [x.out];exact World.ownsRow.alloc i.out _⟩
  .have I:k=O.length:=jo
   have p:O.take k=O:=jR jo;rw [p] at i t;clear p I;go_wp2_with (first|(at_builtin;refine Fn _ rfl _ _ 46 rfl w.heap.size 76 U (.agg #[.int .u64 0,.int .i64 0]) 2 16 Tryz.underlying46 V y z A rfl ji v (O.take ah).length (Bf (O.take ah)) rfl i.out T M.length (Bf M) rfl ?o2 ?c1 ?c2 ?c3 ?c4 ?c5 ?_))
   case o2=>exact HM.out.later d
   case c1=>exact Ps M
   case c2=>exact OD M
   case c3=>unfold maxLen;omega
   case c4=>omega
   case c5=>exact B
   intro v7 w7 s f;have aa:Aa w w7:=d.grown f (fun g S=>(World.ownsRow.lt i.out g S).1)
   have ab:Hid (AS w.heap.size w7 v7 (O.take ah++M)):=by
    show w7.ownsRow _ _ _ _ _ _;have e:Bf (O.take ah++M)=Bf (O.take ah)++Bf M:=by simp [Bf]
    rw [e,jO,jk];exact s
   have ag:(O.take ah++M).length<=131072:=by rw [jO];have:=List.length_take_le' ah O;omega
   clear s f i d J s5 s6 t hr B;go_wp2;go_loopg [5,36] O.length (fun r u n wr=>Aa w wr/\∃(k:Nat) (v:ju),v=u/\r=O.length - k/\k<=O.length/\n= .int .i64 k/\AS w.heap.size wr v ((O.take ah++M)++(O.take k).drop (O.length - bh)))
   case atStart=>exact ⟨aa,0,_,rfl,jo,jo,rfl,by simpa using ab.out⟩
   case round=>
    obtain ⟨d,k,v,rfl,hr,hk,rfl,K⟩:=hrel;have B:=d.size;have t:((O.take ah++M)++(O.take k).drop (O.length - bh)).length<=200000:=by rw [jO,jh];have:=List.length_take_le' k O;omega
    have i:=jp K;have J:=d.cell c4;have s5:=d.cell c5;have s6:=d.cell c6;clear K;by_cases m:k<O.length
    .obtain ⟨g,rfl,N,P⟩:=l k m;have C:=d.cell N;have D:=d.cell P;have x:Hid ((O.take ah++M)++(O.take (k+1)).drop (O.length - bh)=if O.length - bh<=k then (O.take ah++M)++(O.take k).drop (O.length - bh)++[O[k]] else (O.take ah++M)++(O.take k).drop (O.length - bh)):=by show _=_;rw [YD O k _ m];split <;>simp
     clear l N P;generalize O[k]=W at *;obtain ⟨pt,E⟩:=W;simp only at C D;generalize (O.take ah++M)++(O.take k).drop (O.length - bh)=L at *;have X:q≠wr.heap.size:=by have:=jF J;simp only at this;omega
     have Y:q<wr.heap.size:=jF J;by_cases o:O.length - bh<=k
     .rw [if_pos o] at x;have F:decide ((O.length:Int) - (bh:Int)<=(k:Int))=true:=jL jo;go_wp2_with (first|(at_builtin;refine wpList_append_own _ rfl _ _ 46 rfl w.heap.size 76 U (.agg #[.int .u64 0,.int .i64 0]) 2 16 Tryz.underlying46 V y z A rfl ji _ L.length (Bf L) rfl ?p1a ⟨wr.heap.size+1,0,none⟩ 1 1 [.int .u64 pt,.int .i64 E] rfl rfl ?da1 ?da2 ?da3 ?da4 ?da5 ?_))
      case p1a=>exact (World.ownsRow.alloc (World.ownsRow.alloc i.out _) _)
      try (case da1=>exact C8 _ _ _ _ _ js)
      case da2=>first|exact ⟨rfl,rfl⟩|exact Df rfl rfl|(intro u Q;simp at Q;rcases Q with rfl|rfl <;>rfl)
      case da3=>unfold maxLen;omega
      case da4=>omega
      case da5=>first|omega|(simp;omega)
      intro Z R c a _;have G:Aa w R:=((d.step_alloc _).step_alloc _).grown a (fun g S=>(World.ownsRow.lt i.out g S).1);have H:Hid (AS w.heap.size R Z (L++[(pt,E)])):=AS.snoc (b:=(pt,E)) c rfl;clear c a;go_wp2;go_roundg (O.length - (k+1))
      case measure=>omega
      case rel=>exact ⟨G,k+1,_,rfl,rfl,jo,by go_num,by rw [x.out];exact H.out⟩
     .rw [if_neg o] at x;have F:decide ((O.length:Int) - (bh:Int)<=(k:Int))=false:=jK jo;go_wp2;go_roundg (O.length - (k+1))
      case measure=>omega
      case rel=>exact ⟨d.step_alloc _,k+1,_,rfl,rfl,jo,by go_num,by rw [x.out];exact World.ownsRow.alloc i.out _⟩
    .have I:k=O.length:=jo
     have p:O.take k=O:=jR jo;rw [p] at i t;clear p I;clear l;go_wp2;go_ret;exact ⟨_,rfl,d,by rw [Gj];exact i.out⟩
end Go.Proofs.YtpapdkhjdelfcaaGreat
