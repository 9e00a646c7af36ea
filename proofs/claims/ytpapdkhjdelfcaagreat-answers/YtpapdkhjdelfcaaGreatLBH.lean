import Derived.Test.YtpapdkhjdelfcaaGreatLAF
import Derived.Test.YtpapdkhjdelfcaaGreatLBE
import Derived.Test.YtpapdkhjdelfcaaGreatLBG
namespace Go.Proofs.YtpapdkhjdelfcaaGreat
open Go.RowKit
set_option maxRecDepth 100000
set_option maxHeartbeats 4000000
def DF (v:Int):Nat->ByteArray
 |0=>ByteArray.empty
 |n+1=>DF (v / 256) n++BH (v % 256)
def TQ (t s:ByteArray):Prop:=s=t
theorem Ka (v:Int) (n:Nat) (w:World) (f: -9223372036854775808<=v) (c:v<=9223372036854775807) (g:n<=100):
  Calls Tryz.prog 92 #[.int .i64 v,.int .i64 n] w (En w (TQ (DF v n))):=by
 obtain ⟨R,d⟩:∃R,R=DF v n:=⟨_,rfl⟩;rw [<-d];have i:Hid (DF v n++ByteArray.empty=R):=by show _=R;rw [d,ByteArray.append_empty]
 clear d;go_enter Tryz.func92,Tryz.ntmps92;go_wp2;go_loopw [0,1,5] (fun x k t wr=>∃(s:ByteArray) (q:Nat) (u:Int),q<=n/\t= .string s/\x= .int .i64 u/\k= .int .i64 q/\s.size<=100 - q/\ -9223372036854775808<=u/\u<=9223372036854775807/\Aa w wr/\DF u q++s=R) (fun _ k _ _=>(intOf k).toNat)
 case atStart=>exact ⟨ByteArray.empty,n,v,jH _,rfl,rfl,rfl,js,f,c,jD _,i.out⟩
 case round=>
  obtain ⟨s,q,u,C,rfl,rfl,rfl,l,m,o,p,b⟩:=hrel;have a:=jp b;clear b;by_cases r:0<q
  .obtain ⟨q,rfl⟩:∃y,q=y+1:=⟨q - 1,jo⟩
   have z:Hid (DF (u / 256) q++(BH (u % 256)++s)=R):=by
    show _=R;rw [<-a.out,DF,ByteArray.append_assoc]
   have A:=Kn;have B:=EU;have D:decide (((q+1:Nat):Int)>0)=true:=jL jo;clear a;go_wp2;go_roundw
   case rel=>exact ⟨_,q,u / 256,jo,rfl,rfl,by go_num,by simp [EU];omega,jo,jo,jq,z.out⟩
   case measure=>first|(simp [intOf];done)|(simp [intOf];omega)
  .obtain rfl:q=0:=jo
   go_wp2;go_ret;exact ⟨_,rfl,p,by have:=a.out;rw [DF,ByteArray.empty_append] at this;exact this⟩
theorem N8 (n:Nat):BH ((n:Int) % 256)=⟨#[UInt8.ofNat n]⟩:=by
 unfold BH;congr 2;have:((n:Int) % 256).toNat=n % 256:=jo
 rw [this];congr 1;apply UInt8.toNat_inj.1;simp
theorem Hm (n:Nat):DF n 2=⟨#[UInt8.ofNat (n / 256),UInt8.ofNat n]⟩:=by
 have h:((n:Int) / 256)=((n / 256:Nat):Int):=jo
 show (ByteArray.empty++BH ((n:Int) / 256 % 256))++BH ((n:Int) % 256)=_;rw [h,N8,N8];rfl
theorem Ki (key:ByteArray) (letter:UInt8) (t:ByteArray):Cs key (⟨#[letter]⟩++t)=Al key letter [] t:=rfl
theorem Og (key:ByteArray) (letter:UInt8) (k:Nat) (t:ByteArray):Cs key ((⟨#[letter]⟩++DF k 2)++t)=Al key letter [k] t:=by
 rw [Hm];rfl
theorem So (key:ByteArray) (letter:UInt8) (s k:Nat) (t:ByteArray):Cs key (((⟨#[letter]⟩++DF s 2)++DF k 2)++t)=Al key letter [s,k] t:=by
 rw [Hm,Hm];rfl
theorem US (key:ByteArray) (s i:Nat) (id:ByteArray) (m:Int×Int):∀k,
  ((A6 key s i id m k).1= -1\/0<=(A6 key s i id m k).1\/(A6 key s i id m k)=m)/\
  (A6 key s i id m k=m\/((A6 key s i id m k).1=i/\∃j,j<k/\(A6 key s i id m k).2=Al key 104 [s,j] id))/\
  (0<=m.1->0<=(A6 key s i id m k).1/\m.2<=(A6 key s i id m k).2/\((A6 key s i id m k).2=m.2->A6 key s i id m k=m))/\
  (∀j,j<k->0<=(A6 key s i id m k).1/\Al key 104 [s,j] id<=(A6 key s i id m k).2):=by
 intro k
 induction k with
 |zero=>exact ⟨Or.inr (Or.inr rfl),Or.inl rfl,fun h=>⟨h,Int.le_refl _,fun _=>rfl⟩,fun j o=>by omega⟩
 |succ k ih=>
  obtain ⟨t,q,l,p⟩:=ih;simp only [A6];split
  .rename_i d;refine ⟨Or.inr (Or.inl jv),Or.inr ⟨rfl,k,jo,rfl⟩,fun h=>⟨jv,?_,?_⟩,fun j o=>⟨jv,?_⟩⟩
   .have:=l h;simp only;rcases d with d|d <;>omega
   .intro r;have:=l h;simp only at r;rcases d with d|d <;>omega
   .simp only;by_cases f:j=k
    .subst f;exact Int.le_refl _
    .have:=p j jo;rcases d with d|d <;>omega
  .rename_i d;have g:0<=(A6 key s i id m k).1:=jo
   have n:Al key 104 [s,k] id<=(A6 key s i id m k).2:=jo
   refine ⟨Or.inr (Or.inl g),q.imp (fun h=>h) (fun ⟨a,j,b,c⟩=>⟨a,j,jo,c⟩),l,fun j o=>⟨g,?_⟩⟩;by_cases f:j=k
   .subst f;exact n
   .exact (p j jo).2
theorem NU (key:ByteArray) (s:Nat) (B:List BK):∀n,n<=B.length->
  ((AV key s B n).1<n)/\
  (AV key s B n=(-1,0)\/∃p,∃(q:p<B.length),p<n/\(AV key s B n).1=p/\∃j,j<B[p].2.toNat/\(AV key s B n).2=Al key 104 [s,j] B[p].1)/\
  (∀i (k:i<B.length),i<n->∀j,j<B[i].2.toNat->0<=(AV key s B n).1/\(Al key 104 [s,j] B[i].1<(AV key s B n).2\/(Al key 104 [s,j] B[i].1=(AV key s B n).2/\(AV key s B n).1<=i))):=by
 intro n
 induction n with
 |zero=>intro _;exact ⟨by simp [AV],Or.inl rfl,fun i _ k=>by omega⟩
 |succ n ih=>
  intro C;obtain ⟨D,v,w⟩:=ih jo
  have l:AV key s B (n+1)=A6 key s n B[n].1 (AV key s B n) B[n].2.toNat:=by
   rw [AV,jG (show n<B.length by omega)]
  obtain ⟨x,d,r,t⟩:=US key s n B[n].1 (AV key s B n) B[n].2.toNat;rw [<-l] at x d r t;refine ⟨?_,?_,?_⟩
  .rcases d with g|⟨g,_⟩
   .rw [g];push_cast;omega
   .rw [g];push_cast;omega
  .rcases d with g|⟨g,j,f,c⟩
   .rw [g];exact v.imp id (fun ⟨p,q,a,b⟩=>⟨p,q,jo,b⟩)
   .exact Or.inr ⟨n,jo,jo,g,j,f,c⟩
  .intro i k y j f;by_cases m:i=n
   .subst m;obtain ⟨o,u⟩:=t j f;refine ⟨o,?_⟩;rcases d with g|⟨g,_⟩
    .by_cases c:Al key 104 [s,j] B[i].1=(AV key s B (i+1)).2
     .exact Or.inr ⟨c,by rw [g];omega⟩
     .exact Or.inl jo
    .by_cases c:Al key 104 [s,j] B[i].1=(AV key s B (i+1)).2
     .exact Or.inr ⟨c,jo⟩
     .exact Or.inl jo
   .obtain ⟨o,u⟩:=w i k jo j f;obtain ⟨z,E,A⟩:=r o;refine ⟨z,?_⟩;by_cases c:(AV key s B (n+1)).2=(AV key s B n).2
    .rw [A c];exact u
    .exact Or.inl jo
theorem Ep.le {B:List BK} (h:Ep B) {i j:Nat} (a:i<B.length) (b:j<B.length) (c:i<=j):AO B[j].1 B[i].1=false:=by
 by_cases e:i=j
 .subst e;exact Ln _
 .exact Qj (List.pairwise_iff_getElem.1 h i j a b jo)
theorem IY {B:List BK} {p:Nat} (a:p<B.length):A7 B (p:Int)=B[p].1:=by
 rw [A7,if_neg jo,Int.toNat_natCast,jG a];rfl
theorem NS:∀{B:List BK},1<=As B->(∀b∈B,0<=b.2)->∃b∈B,1<=b.2
 |[],h,_=>by simp [As] at h
 |b::B,h,hw=>by
  by_cases c:1<=b.2
  .exact ⟨b,List.mem_cons_self,c⟩
  .have f:=hw b List.mem_cons_self;obtain ⟨x,a,d⟩:=NS (B:=B) (by simp only [As,List.map_cons,List.sum_cons] at h |-;omega) (fun x a=>hw x (jW _ a));exact ⟨x,jW _ a,d⟩
def Il (L:List EI):Prop:=L.Pairwise fun a b=>a.1<b.1\/(a.1=b.1/\a.2<=b.2)
theorem Xk {e:EI} {L:List EI} (h:Il L) (c:∀x∈L,x.2<=e.2):Il (Ck e L):=by
 induction L with
 |nil=>simp [Ck,Il]
 |cons x L ih=>
  obtain ⟨d,f⟩:=List.pairwise_cons.1 h;rw [Ck];split
  .rename_i b;refine List.pairwise_cons.2 ⟨fun y a=>?_,h⟩;rcases ja.1 a with rfl|a
   .exact Or.inl b
   .have:=d y a;omega
  .rename_i b;refine List.pairwise_cons.2 ⟨fun y a=>?_,ih f (fun y a=>c y (jW _ a))⟩;rcases Mw.1 a with rfl|a
   .have:=c x List.mem_cons_self;omega
   .exact d y a
theorem N0 (L:List EI) (x:EI):∀n,n<=L.length->(x∈BN L n↔x∈L.take n):=by
 intro n
 induction n with
 |zero=>intro _;simp [BN]
 |succ n ih=>
  intro a;rw [BN,jG (show n<L.length by omega),jQ jo];show x∈Ck L[n] (BN L n)↔_;rw [Mw,ih jo,jT,jP];exact Or.comm
theorem Yi (L:List EI) (d:L.Pairwise fun a b=>a.2<=b.2):∀n,n<=L.length->Il (BN L n):=by
 intro n
 induction n with
 |zero=>intro _;simp [BN,Il]
 |succ n ih=>
  intro g;rw [BN,jG (show n<L.length by omega)];refine Xk (ih jo) fun x c=>?_
  rw [N0 L x n jo] at c;obtain ⟨i,f,rfl⟩:=List.mem_iff_getElem.1 c;rw [List.getElem_take];rw [jk] at f;exact List.pairwise_iff_getElem.1 d i n jo jo jo
theorem Ze (key:ByteArray) (letter:UInt8) (each:Int) (B:List BK):∀n,n<=B.length->
  (∀x,x∈AW key letter each B n↔∃i,∃(f:i<B.length),i<n/\∃k,k<(each * B[i].2).toNat/\x=(Al key letter [k] B[i].1,(i:Int)))/\(AW key letter each B n).Pairwise fun a b=>a.2<=b.2:=by
 intro n
 induction n with
 |zero=>intro _;exact ⟨fun x=>⟨fun h=>by simp [AW] at h,fun ⟨i,_,h,_⟩=>by omega⟩,by simp [AW]⟩
 |succ n ih=>
  intro t;obtain ⟨o,p⟩:=ih jo
  have g:AW key letter each B (n+1)=AW key letter each B n++DD key letter each n B[n]:=by
   rw [AW,jG (show n<B.length by omega)]
  have c:∀x,x∈DD key letter each n B[n]↔∃k,k<(each * B[n].2).toNat/\x=(Al key letter [k] B[n].1,(n:Int)):=fun x=>by
   rw [DD,List.mem_map];exact ⟨fun ⟨k,l,e⟩=>⟨k,List.mem_range.1 l,e.symm⟩,fun ⟨k,l,e⟩=>⟨k,List.mem_range.2 l,e.symm⟩⟩
  rw [g];refine ⟨fun x=>?_,List.pairwise_append.2 ⟨p,?_,?_⟩⟩
  .rw [jT,o,c];constructor
   .rintro (⟨i,f,d,r⟩|r)
    .exact ⟨i,f,jo,r⟩
    .exact ⟨n,jo,jo,r⟩
   .rintro ⟨i,f,d,r⟩;by_cases m:i=n
    .subst m;exact Or.inr r
    .exact Or.inl ⟨i,f,jo,r⟩
  .rw [DD];refine List.pairwise_map.2 (List.pairwise_of_forall ?_);intro _ _;exact Int.le_refl _
  .intro a q b s;obtain ⟨i,_,d,k,_,rfl⟩:=(o a).1 q;obtain ⟨u,_,rfl⟩:=(c b).1 s;show (i:Int)<=(n:Int);omega
theorem UG (key:ByteArray) (letter:UInt8) (each:Int) (B:List BK):
  (∀x,x∈Dk key letter each B↔∃i,∃(a:i<B.length),∃k,k<(each * B[i].2).toNat/\x=(Al key letter [k] B[i].1,(i:Int)))/\Il (Dk key letter each B):=by
 obtain ⟨b,c⟩:=Ze key letter each B B.length (jH _);refine ⟨fun x=>?_,Yi _ c _ (jH _)⟩;rw [Dk,N0 _ _ _ (jH _),List.take_length,b];exact ⟨fun ⟨i,a,_,r⟩=>⟨i,a,r⟩,fun ⟨i,a,r⟩=>⟨i,a,a,r⟩⟩
def Gt (p h:Int):Int:=(p - h) % 18446744073709551616
theorem MG {p h:Int} (b:0<=p/\p<18446744073709551616) (c:0<=h/\h<18446744073709551616) (a:h<=p):Gt p h=p - h:=Int.emod_eq_of_lt jo jo
theorem KJ {p h:Int} (b:0<=p/\p<18446744073709551616) (c:0<=h/\h<18446744073709551616) (a:p<h):Gt p h=p - h+18446744073709551616:=by
 have:(p - h) % 18446744073709551616=(p - h+18446744073709551616) % 18446744073709551616:=jo
 rw [Gt,this];exact Int.emod_eq_of_lt jo jo
theorem Mu:∀{B:List BK} {b:BK},b∈B->1<=b.2->(∀b∈B,0<=b.2)->1<=As B
 |[],b,h,_,_=>by cases h
 |x::B,b,h,c,hw=>by
  have a:=hw x List.mem_cons_self
  have d:0<=As B:=by
   have:∀B:List BK,(∀b∈B,0<=b.2)->0<=As B:=fun B=>by
    induction B with
    |nil=>intro _;simp [As]
    |cons y B ih=>
     intro h;have c:=ih (fun x a=>h x (jW _ a));have f:=h y List.mem_cons_self;simp only [As,List.map_cons,List.sum_cons] at c |-;omega
   exact this B (fun x a=>hw x (jW _ a))
  have g:As (x::B)=x.2+As B:=by simp [As]
  rcases ja.1 h with rfl|h
  .omega
  .have:=Mu h c (fun x a=>hw x (jW _ a));omega
abbrev NI:=Int×ByteArray
def Io (e:NI):List NI->List NI
 |[]=>[e]
 |x::l=>if e.1<x.1 then e::x::l else x::Io e l
theorem Qb (f:EI->NI) (a:∀e,(f e).1=e.1) (e:EI):∀L:List EI,(Ck e L).map f=Io (f e) (L.map f)
 |[]=>rfl
 |x::l=>by
  rw [Ck,List.map_cons,Io,a,a];split
  .rfl
  .rw [List.map_cons,Qb f a e l]
theorem Nw (e:NI):∀(L:List NI) (k:Nat),k<=L.length->(∀i (h:i<L.length),i<k->¬e.1<L[i].1)->(∀h:k<L.length,e.1<L[k].1)->L.take k++e::L.drop k=Io e L
 |[],k,hk,_,_=>by
  have:k=0:=by simpa using hk
  subst this;rfl
 |x::l,0,_,_,h2=>by
  have:=h2 js;simp only [List.getElem_cons_zero] at this;simp [Io,this]
 |x::l,k+1,hk,h1,h2=>by
  have a:=h1 0 js jo;simp only [List.getElem_cons_zero] at a
  rw [Io, if_neg a, List.take_succ_cons, List.drop_succ_cons, List.cons_append, Nw e l k (by simpa using hk) (fun i h b => by
    have := h1 (i + 1) (by simpa using h) jo
    simpa using this) (fun h => by
    have := h2 (by simpa using h)
    simpa using this)]
theorem U0 {L:List EI} {n:Nat} {e:EI} (h:L[n]?=some e):BN L (n+1)=Ck e (BN L n):=by
 rw [BN,h]
theorem JV {key:ByteArray} {letter:UInt8} {each:Int} {B:List BK} {i:Nat} (h:i<B.length):AW key letter each B (i+1)=AW key letter each B i++DD key letter each i B[i]:=by
 rw [AW,jG h]
theorem VC {key:ByteArray} {letter:UInt8} {each:Int} {B:List BK} (i n:Nat) (a:i<=n) (c:n<=B.length):∃R,AW key letter each B n=AW key letter each B i++R:=by
 induction n with
 |zero=>exact ⟨[],by rw [show i=0 by omega];simp⟩
 |succ n ih=>
  by_cases h:i=n+1
  .exact ⟨[],by rw [h];simp⟩
  .obtain ⟨R,b⟩:=ih jo jo;exact ⟨R++DD key letter each n B[n],by rw [JV jo,b,List.append_assoc]⟩
theorem RY {key:ByteArray} {letter:UInt8} {each:Int} {B:List BK} (i k:Nat) (b:i<B.length) (a:k<(each * B[i].2).toNat):(AW key letter each B B.length)[(AW key letter each B i).length+k]?=some (Al key letter [k] B[i].1,(i:Int)):=by
 obtain ⟨R,c⟩:=VC (key:=key) (letter:=letter) (each:=each) (B:=B) (i+1) B.length jo (jH _);rw [c,JV b,List.append_assoc,List.getElem?_append_right jo,Nat.add_sub_cancel_left,List.getElem?_append_left (by simp [DD,a])];simp [DD,a]
theorem SN {key:ByteArray} {letter:UInt8} {each:Int} {B:List BK} {i:Nat} (h:i<B.length):(AW key letter each B (i+1)).length=(AW key letter each B i).length+(each * B[i].2).toNat:=by
 rw [JV h];simp [DD]
theorem Xn {n:Nat} {d:Nat->Int} {i j:Nat} (a:i<n) (b:j<n) (c:∀k,k<n->d i<=d k) (f:∀k,k<i->d i<d k) (g:∀k,k<n->d j<=d k) (l:∀k,k<j->d j<d k):i=j:=by
 rcases Nat.lt_trichotomy i j with h|h|h
 .have:=l i h;have:=c j b;omega
 .exact h
 .have:=f j h;have:=g i a;omega
theorem Vp {E:List EI} {h:Int} (u:IA E) (g:0<E.length) (q:∀x∈E,0<=x.1/\x.1<18446744073709551616) (m:0<=h/\h<18446744073709551616):
  A8 E h<E.length/\(∀k (d:k<E.length),Gt (E.getD (A8 E h) (0,0)).1 h<=Gt E[k].1 h)/\∀k (d:k<E.length),k<A8 E h->Gt (E.getD (A8 E h) (0,0)).1 h<Gt E[k].1 h:=by
 have l:∀k (d:k<E.length),E.getD k (0,0)=E[k]:=fun k d=>by rw [jV,jG d];rfl
 by_cases v:∃k,∃(d:k<E.length),h<=E[k].1
 .have i:∃k,∃(d:k<E.length),h<=E[k].1/\∀j (b:j<E.length),j<k->¬h<=E[j].1:=by
   obtain ⟨k,d,n⟩:=v
   induction k using Nat.strongRecOn with
   |ind k ih=>
    by_cases r:∃j,∃(b:j<E.length),j<k/\h<=E[j].1
    .obtain ⟨j,b,f,o⟩:=r;exact ih j f b o
    .exact ⟨k,d,n,fun j b f o=>r ⟨j,b,f,o⟩⟩
  obtain ⟨k,d,n,a⟩:=i
  rw [OF d n a,l k d]
  have p:=q _ (jJ d)
  rw [MG p m n]
  refine ⟨d,fun j b=>?_,fun j b f=>?_⟩
  .have c:=q _ (jJ b)
   rcases Nat.lt_trichotomy j k with s|s|s
   .have:=a j b s
    rw [KJ c m jo]
    omega
   .subst s
    rw [MG c m n]
    omega
   .have:=List.pairwise_iff_getElem.1 u k j d b s
    rw [MG c m jo]
    omega
  .have c:=q _ (jJ b)
   have:=a j b f
   rw [KJ c m jo]
   omega
 .have a:∀j (b:j<E.length),¬h<=E[j].1:=fun j b n=>v ⟨j,b,n⟩
  rw [Nx a,l 0 g];have p:=q _ (jJ g);have w:=a 0 g;refine ⟨g,fun j b=>?_,fun j b f=>by omega⟩;have c:=q _ (jJ b);have y:=a j b;rw [KJ p m jo,KJ c m jo];by_cases t:j=0
  .subst t;omega
  .have:=List.pairwise_iff_getElem.1 u 0 j g b jo;omega
def Sc (w:World) (v:Value) (k:Nat) (L:List EN) (u:Value) (a:World):Prop:=∃S:World,Aa w S/\S.ownsRow w.heap.size 146 3 v k (Av L)/\Aa S a/\BM S.heap.size a u
theorem Sc.bel {w:World} {v:Value} {k:Nat} {L:List EN} {u:Value} {a:World} (h:Sc w v k L u a):Aa w a:=by
 obtain ⟨S,b,_,c,_⟩:=h;exact b.trans c
theorem Sc.later {w:World} {v:Value} {k:Nat} {L:List EN} {u:Value} {a wy:World} (h:Sc w v k L u a) (b:Aa a wy):Sc w v k L u wy:=by
 obtain ⟨S,c,d,f,g⟩:=h;exact ⟨S,c,d,f.trans b,g.later b⟩
theorem Sc.own {w:World} {v:Value} {k:Nat} {L:List EN} {u:Value} {a:World} (h:Sc w v k L u a):a.ownsRow w.heap.size 146 3 v k (Av L):=by
 obtain ⟨S,_,b,c,_⟩:=h;exact I6 b c
theorem Sc.open {w:World} {v:Value} {k:Nat} {L:List EN} {u:Value} {c:World} (h:Sc w v k L u c):∃(p:Nat) (x y:Int),u= .pointer (some ⟨p,0,none⟩)/\c.cell? ⟨p,0,none⟩=some (.int .i64 x)/\c.cell? ⟨p,1,none⟩=some (.int .i64 y)/\c.frozen? ⟨p,0,none⟩=false/\c.frozen? ⟨p,1,none⟩=false/\Af x/\Af y/\
  ∀(wy:World) (a b:Int),Aa c wy->Af a->Af b->Sc w v k L u ((wy.setCell ⟨p,0,none⟩ (.int .i64 a)).setCell ⟨p,1,none⟩ (.int .i64 b)):=by
 obtain ⟨S,m,n,o,g⟩:=h;have d:=g;obtain ⟨p,x,y,q,i,r,s,t,z,A,B⟩:=g;refine ⟨p,x,y,q,r,s,t,z,A,B,fun wy a b l C f=>⟨S,m,n,?_,?_⟩⟩
 .exact ((o.trans l).step_set (p:=⟨p,0,none⟩) i _).step_set (p:=⟨p,1,none⟩) i _
 .exact ((d.later l).set _ C).set _ f
def Zco (w:World) (c:Ac) (B:List BK) (e:Ending) (w':World):Prop:=∃(v:Value) (E:List EN),e= .returned v/\Aa w w'/\Dz w.heap.size w' v E/\E.length<=140000/\(∀x∈E,DZ B x)/\(¬EV c->E=[]\/(E.length:Int)=c.slots)
def I8 (B:List BK) (s:ByteArray):Prop:=s.size=0\/∃b∈B,b.1=s
def CG (a:List ByteArray):List EN:=a.map fun s=>(s,0,0)
theorem Kv (a:List ByteArray):(CG a).length=a.length:=by simp [CG]
theorem XC (a:List ByteArray) (k:Nat) (x:ByteArray):Av (CG (a.set k x))=(Av (CG a)).set (k * 3) (.string x):=by
 induction a generalizing k with
 |nil=>simp [CG,Av]
 |cons s S ih=>
  cases k with
  |zero=>simp [CG,Av]
  |succ k=>
   have e:(k+1) * 3=k * 3+1+1+1:=jo
   have:=ih k;simp only [CG,Av,List.set_cons_succ,List.map_cons,List.flatMap_cons,List.cons_append,List.nil_append,e] at this |-;rw [this]
def DG (base g:Nat) (w:World) (a:List ByteArray):Prop:=w.ownsRow base 146 3 (sl g a.length a.length) a.length (Av (CG a))
theorem UD (n:Nat) (s:ByteArray):(madeCells #[Value.string s,.int .i64 0,.int .i64 0] (n * 3)).toList=Av (CG (List.replicate n s)):=by
 have b:(CG (List.replicate n s)).length=n:=by simp [CG]
 apply List.ext_getElem?;intro j;by_cases g:j<n * 3
 .have i:j / 3<(CG (List.replicate n s)).length:=by rw [b];omega
  obtain ⟨c,d,f⟩:=Ig (CG (List.replicate n s)) (j / 3) i;have a:(CG (List.replicate n s))[j / 3]=(s,0,0):=by simp [CG]
  rw [a] at c d f;have k:(madeCells #[Value.string s,.int .i64 0,.int .i64 0] (n * 3)).toList[j]?=some (#[Value.string s,.int .i64 0,.int .i64 0][j % 3]!):=by simp [madeCells,g]
  rw [k];rcases (show j % 3=0\/j % 3=1\/j % 3=2 by omega) with h|h|h
  .rw [h,show j=j / 3 * 3 by omega,c];rfl
  .rw [h,show j=j / 3 * 3+1 by omega,d];rfl
  .rw [h,show j=j / 3 * 3+2 by omega,f];rfl
 .rw [List.getElem?_eq_none (by simp [size_madeCells];omega),List.getElem?_eq_none (by rw [Iv,b];omega)]
theorem DG.made {base:Nat} {w:World} {g n:Nat} (h:w.ownsRow base 146 3 (.slice (some ⟨g,0,none⟩) n n) n (madeCells #[Value.string ByteArray.empty,.int .i64 0,.int .i64 0] (n * 3)).toList):DG base g w (List.replicate n ByteArray.empty):=by
 unfold DG sl;rw [List.length_replicate,<-UD];exact h
theorem DG.later {base g:Nat} {w w':World} {a:List ByteArray} (h:DG base g w a) (k:Aa w w'):DG base g w' a:=BG h k
theorem DG.set {base g:Nat} {w:World} {a:List ByteArray} (h:DG base g w a) (k:Nat) (x:ByteArray):DG base g (w.setCell ⟨g,k * 3,none⟩ (.string x)) (a.set k x):=by
 have b:=World.ownsRow.stored h (k * 3) (.string x);unfold DG;rw [XC,sl,List.length_set];exact b.1
theorem DG.cell {base g:Nat} {w:World} {a:List ByteArray} (h:DG base g w a) {k:Nat} (b:k<a.length):w.cell? ⟨g,k * 3,none⟩=some (.string a[k])/\w.frozen? ⟨g,k * 3,none⟩=false:=by
 have c:k<(CG a).length:=by rw [Kv];exact b
 refine ⟨(World.ownsRow.cellAt h (k * 3) jo).trans ?_,World.ownsRow.frozenAt h (k * 3)⟩;rw [(Ig (CG a) k c).1];simp [CG]
def free (s:ByteArray):Bool:=decide (s.size=0)
def emp (a:List ByteArray):Nat:=a.countP free
theorem Xh {a:List ByteArray} {k:Nat} (b:k<a.length) (d:a[k].size=0) {x:ByteArray} (f:x.size≠0):emp (a.set k x)+1=emp a:=by
 have c:free a[k]=true:=jL d;have g:free x=false:=jK f;have i:0<emp a:=List.countP_pos_iff.2 ⟨_,jJ b,c⟩;unfold emp at *;rw [List.countP_set b,c,g];simp;omega
theorem Qy {a:List ByteArray} {n:Nat} (u:a.length=n) (b:∀d:Nat,2<=d->d<n->n % d≠0) (g:2<=n) (o s:Int) (k:0<=o) (c:1<=s) (f:s<n) (l:0<emp a):∃i,i<n/\∃h:A0 n (o,s) i<a.length,(a[A0 n (o,s) i]'h).size=0:=by
 obtain ⟨x,m,p⟩:=List.countP_pos_iff.1 l;obtain ⟨v,q,rfl⟩:=List.mem_iff_getElem.1 m;obtain ⟨i,r,e⟩:=Tc n g b o s k c f v jo;refine ⟨i,r,by rw [e];exact q,?_⟩;have t:a[v].size=0:=of_decide_eq_true p;simp only [e];exact t
theorem isEmpty_iff (s:ByteArray):s.toList.isEmpty=true↔s.size=0:=by
 rw [ByteArray.toList_eq,List.isEmpty_iff,<-List.length_eq_zero_iff];rfl
theorem RL {n:Nat} {o s:Int} (b:0<=o) (a:o<n):((A0 n (o,s) 0:Nat):Int)=o:=by
 unfold A0;simp only [Int.natCast_zero,Int.zero_mul,Int.add_zero];rw [Int.emod_eq_of_lt b a];omega
theorem T2 {n:Nat} (c:0<n) (o s:Int) (i:Nat):((A0 n (o,s) (i+1):Nat):Int)=((A0 n (o,s) i:Nat)+s) % n:=by
 unfold A0;have a:=Int.emod_nonneg (o+(i:Int) * s) (show (n:Int)≠0 by omega);have b:=Int.emod_nonneg (o+((i+1:Nat):Int) * s) (show (n:Int)≠0 by omega);rw [Int.toNat_of_nonneg a,Int.toNat_of_nonneg b,Int.emod_add_emod];congr 1;push_cast;rw [Int.add_mul];omega
theorem Vt (m:Int) (B:List BK) (a:0<=m) (c:AL B):((DJ m B).sum=0/\∀x∈DJ m B,x=0)\/((DJ m B).sum=m/\1<=As B):=by
 unfold DJ;split
 .refine Or.inl ⟨?_,fun x d=>List.eq_of_mem_replicate d⟩;generalize B.length=n
  induction n with
  |zero=>rfl
  |succ n ih=>simp [List.replicate_succ]
 .exact Or.inr ⟨(Ma m B a (fun b f=>(c.2 b f).2.2.1) jo).1,jo⟩
theorem QK (m:Int) (B:List BK):(DJ m B).length=B.length:=by
 unfold DJ;split
 .simp
 .exact M4 m B jo
theorem XJ (m:Int) (B:List BK) (c:0<=m) (d:AL B):∀x∈DJ m B,0<=x:=by
 intro x a;unfold DJ at a;split at a
 .have:=List.eq_of_mem_replicate a;omega
 .have h:=Ma m B c (fun b f=>(d.2 b f).2.2.1) jo;obtain ⟨j,g,rfl⟩:=List.mem_iff_getElem.1 a;have:=(h.2.2 j jo).1;rw [jV,jG g] at this;exact this
theorem GW:∀{L:List Int},(∀x∈L,0<=x)->(∀x∈L,x<=L.sum)/\0<=L.sum
 |[],_=>by simp
 |y::L,h=>by
  obtain ⟨b,c⟩:=GW (L:=L) (fun x a=>h x (jW _ a));have d:=h y List.mem_cons_self;rw [List.sum_cons];refine ⟨fun x a=>?_,jo⟩;rcases ja.1 a with rfl|a
  .omega
  .have:=b x a;omega
theorem MZ {L:List Int} (h:∀x∈L,0<=x) (k:Nat):0<=(L.take k).sum/\(L.take k).sum<=L.sum:=by
 have b:=(GW (L:=L.take k) (fun x a=>h x (List.mem_of_mem_take a))).2;have c:=(GW (L:=L.drop k) (fun x a=>h x (List.mem_of_mem_drop a))).2;have d:L.sum=(L.take k).sum+(L.drop k).sum:=by rw [<-List.sum_append,List.take_append_drop]
 omega
def IU (W:World) (B:List BK) (b d c n:Nat) (Q:List Int) (a:List ByteArray) (wr:World):Prop:=Aa W wr/\BS W.heap.size wr (sl b Q.length d) Q/\DG W.heap.size c wr a/\b≠c/\Q.length=B.length/\a.length=n/\(∀x∈Q,0<=x)/\(∀s∈a,I8 B s)/\Q.sum=emp a
theorem IU.later {W:World} {B:List BK} {c d f n:Nat} {Q:List Int} {a:List ByteArray} {wr g:World} (h:IU W B c d f n Q a wr) (b:Aa wr g):IU W B c d f n Q a g:=by
 obtain ⟨i,k,l,r⟩:=h;exact ⟨i.trans b,k.later b,l.later b,r⟩
end Go.Proofs.YtpapdkhjdelfcaaGreat
