import Derived.Test.YtpapdkhjdelfcabGreatLAF
import Derived.Test.YtpapdkhjdelfcabGreatLBG
import Derived.Test.YtpapdkhjdelfcabGreatLBI
namespace Go.Proofs.YtpapdkhjdelfcabGreat
open Go.RowKit
set_option maxRecDepth 100000
set_option maxHeartbeats 4000000
def DF (v:Int):Nat→ByteArray
 |0=>ByteArray.empty
 |n+1=>DF (v / 256) n++BH (v % 256)
def TQ (t s:ByteArray):Prop:=s=t
theorem Ka (v:Int) (n:Nat) (w:World) (hv: -9223372036854775808≤v) (hv2:v≤9223372036854775807) (hn2:n≤100):
  Calls Tryz.prog 146 #[.int .i64 v,.int .i64 n] w (En w (TQ (DF v n))):=by
 obtain ⟨R,hR⟩:∃R,R=DF v n:=⟨_,rfl⟩;rw [←hR];have HR:Hid (DF v n++ByteArray.empty=R):=by show _=R;rw [hR,ByteArray.append_empty]
 clear hR;go_enter Tryz.func146,Tryz.ntmps146;go_wp2;go_loopw [0,1,5] (fun x k t wr=>∃(s:ByteArray) (q:Nat) (u:Int),q≤n∧t= .string s∧x= .int .i64 u∧k= .int .i64 q∧s.size≤100 - q∧ -9223372036854775808≤u∧u≤9223372036854775807∧Aa w wr∧DF u q++s=R) (fun _ k _ _=>(intOf k).toNat)
 case atStart=>exact ⟨ByteArray.empty,n,v,jH _,rfl,rfl,rfl,by simp,hv,hv2,jD _,HR.out⟩
 case round=>
  obtain ⟨s,q,u,hq,rfl,rfl,rfl,hsz,hu1,hu2,hb,hrr⟩:=hrel;have HRR:=jp hrr;clear hrr;by_cases hlt:0<q
  ·obtain ⟨q,rfl⟩:∃q',q=q'+1:=⟨q - 1,by omega⟩
   have HN:Hid (DF (u / 256) q++(BH (u % 256)++s)=R):=by
    show _=R;rw [←HRR.out,DF,ByteArray.append_assoc]
   have hcv:=Kn;have h1z:=EU;have hd:decide (((q+1:Nat):Int)>0)=true:=jL (by omega);clear HRR;go_wp2;go_roundw
   case rel=>exact ⟨_,q,u / 256,by omega,rfl,rfl,by go_num,by simp [EU];omega,by omega,by omega,by solve_by_elim [jA,jB,jC,jD,jE],HN.out⟩
   case measure=>first|(simp [intOf];done)|(simp [intOf];omega)
  ·obtain rfl:q=0:=by omega
   go_wp2;go_ret;exact ⟨_,rfl,hb,by have:=HRR.out;rw [DF,ByteArray.empty_append] at this;exact this⟩
theorem N8 (n:Nat):BH ((n:Int) % 256)=⟨#[UInt8.ofNat n]⟩:=by
 unfold BH;congr 2;have:((n:Int) % 256).toNat=n % 256:=by omega
 rw [this];congr 1;apply UInt8.toNat_inj.1;simp
theorem Hm (n:Nat):DF n 2=⟨#[UInt8.ofNat (n / 256),UInt8.ofNat n]⟩:=by
 have h:((n:Int) / 256)=((n / 256:Nat):Int):=by omega
 show (ByteArray.empty++BH ((n:Int) / 256 % 256))++BH ((n:Int) % 256)=_;rw [h,N8,N8];rfl
theorem Ki (key:ByteArray) (letter:UInt8) (t:ByteArray):Cs key (⟨#[letter]⟩++t)=Al key letter [] t:=rfl
theorem Og (key:ByteArray) (letter:UInt8) (k:Nat) (t:ByteArray):Cs key ((⟨#[letter]⟩++DF k 2)++t)=Al key letter [k] t:=by
 rw [Hm];rfl
theorem So (key:ByteArray) (letter:UInt8) (s k:Nat) (t:ByteArray):Cs key (((⟨#[letter]⟩++DF s 2)++DF k 2)++t)=Al key letter [s,k] t:=by
 rw [Hm,Hm];rfl
theorem US (key:ByteArray) (s i:Nat) (id:ByteArray) (m:Int×Int):∀k,
  ((A6 key s i id m k).1= -1∨0≤(A6 key s i id m k).1∨(A6 key s i id m k)=m)∧
  (A6 key s i id m k=m∨((A6 key s i id m k).1=i∧∃j,j<k∧(A6 key s i id m k).2=Al key 104 [s,j] id))∧
  (0≤m.1→0≤(A6 key s i id m k).1∧m.2≤(A6 key s i id m k).2∧((A6 key s i id m k).2=m.2→A6 key s i id m k=m))∧
  (∀j,j<k→0≤(A6 key s i id m k).1∧Al key 104 [s,j] id≤(A6 key s i id m k).2):=by
 intro k
 induction k with
 |zero=>exact ⟨Or.inr (Or.inr rfl),Or.inl rfl,fun h=>⟨h,Int.le_refl _,fun _=>rfl⟩,fun j hj=>by omega⟩
 |succ k ih=>
  obtain ⟨h1,h2,h3,h4⟩:=ih;simp only [A6];split
  ·rename_i hc;refine ⟨Or.inr (Or.inl (by simp only;omega)),Or.inr ⟨rfl,k,by omega,rfl⟩,fun h=>⟨by simp only;omega,?_,?_⟩,fun j hj=>⟨by simp only;omega,?_⟩⟩
   ·have:=h3 h;simp only;rcases hc with hc|hc <;>omega
   ·intro he;have:=h3 h;simp only at he;rcases hc with hc|hc <;>omega
   ·simp only;by_cases hjk:j=k
    ·subst hjk;exact Int.le_refl _
    ·have:=h4 j (by omega);rcases hc with hc|hc <;>omega
  ·rename_i hc;have hc1:0≤(A6 key s i id m k).1:=by omega
   have hc2:Al key 104 [s,k] id≤(A6 key s i id m k).2:=by omega
   refine ⟨Or.inr (Or.inl hc1),h2.imp (fun h=>h) (fun ⟨a,j,b,c⟩=>⟨a,j,by omega,c⟩),h3,fun j hj=>⟨hc1,?_⟩⟩;by_cases hjk:j=k
   ·subst hjk;exact hc2
   ·exact (h4 j (by omega)).2
theorem NU (key:ByteArray) (s:Nat) (B:List BK):∀n,n≤B.length→
  ((AV key s B n).1<n)∧
  (AV key s B n=(-1,0)∨∃p,∃(hp:p<B.length),p<n∧(AV key s B n).1=p∧∃j,j<B[p].2.toNat∧(AV key s B n).2=Al key 104 [s,j] B[p].1)∧
  (∀i (hi:i<B.length),i<n→∀j,j<B[i].2.toNat→0≤(AV key s B n).1∧(Al key 104 [s,j] B[i].1<(AV key s B n).2∨(Al key 104 [s,j] B[i].1=(AV key s B n).2∧(AV key s B n).1≤i))):=by
 intro n
 induction n with
 |zero=>intro _;exact ⟨by simp [AV],Or.inl rfl,fun i _ hi=>by omega⟩
 |succ n ih=>
  intro hn;obtain ⟨h1,h2,h3⟩:=ih (by omega)
  have hst:AV key s B (n+1)=A6 key s n B[n].1 (AV key s B n) B[n].2.toNat:=by
   rw [AV,jG (show n<B.length by omega)]
  obtain ⟨g1,g2,g3,g4⟩:=US key s n B[n].1 (AV key s B n) B[n].2.toNat;rw [←hst] at g1 g2 g3 g4;refine ⟨?_,?_,?_⟩
  ·rcases g2 with g|⟨g,_⟩
   ·rw [g];push_cast;omega
   ·rw [g];push_cast;omega
  ·rcases g2 with g|⟨g,j,hj,he⟩
   ·rw [g];exact h2.imp id (fun ⟨p,hp,a,b⟩=>⟨p,hp,by omega,b⟩)
   ·exact Or.inr ⟨n,by omega,by omega,g,j,hj,he⟩
  ·intro i hi hin j hj;by_cases hi2:i=n
   ·subst hi2;obtain ⟨q1,q2⟩:=g4 j hj;refine ⟨q1,?_⟩;rcases g2 with g|⟨g,_⟩
    ·by_cases he:Al key 104 [s,j] B[i].1=(AV key s B (i+1)).2
     ·exact Or.inr ⟨he,by rw [g];omega⟩
     ·exact Or.inl (by omega)
    ·by_cases he:Al key 104 [s,j] B[i].1=(AV key s B (i+1)).2
     ·exact Or.inr ⟨he,by omega⟩
     ·exact Or.inl (by omega)
   ·obtain ⟨q1,q2⟩:=h3 i hi (by omega) j hj;obtain ⟨r1,r2,r3⟩:=g3 q1;refine ⟨r1,?_⟩;by_cases he:(AV key s B (n+1)).2=(AV key s B n).2
    ·rw [r3 he];exact q2
    ·exact Or.inl (by omega)
theorem IY {B:List BK} {p:Nat} (hp:p<B.length):A7 B (p:Int)=B[p].1:=by
 rw [A7,if_neg (by omega),Int.toNat_natCast,jG hp];rfl
theorem NS:∀{B:List BK},1≤As B→(∀b∈B,0≤b.2)→∃b∈B,1≤b.2
 |[],h,_=>by simp [As] at h
 |b::B,h,hw=>by
  by_cases hb:1≤b.2
  ·exact ⟨b,List.mem_cons_self,hb⟩
  ·have h0:=hw b List.mem_cons_self;obtain ⟨x,hx,h1⟩:=NS (B:=B) (by simp only [As,List.map_cons,List.sum_cons] at h ⊢;omega) (fun x hx=>hw x (jW _ hx));exact ⟨x,jW _ hx,h1⟩
def Il (L:List EI):Prop:=L.Pairwise fun a b=>a.1<b.1∨(a.1=b.1∧a.2≤b.2)
theorem Xk {e:EI} {L:List EI} (h:Il L) (hp:∀x∈L,x.2≤e.2):Il (Ck e L):=by
 induction L with
 |nil=>simp [Ck,Il]
 |cons x L ih=>
  obtain ⟨h1,h2⟩:=List.pairwise_cons.1 h;rw [Ck];split
  ·rename_i hlt;refine List.pairwise_cons.2 ⟨fun y hy=>?_,h⟩;rcases ja.1 hy with rfl|hy
   ·exact Or.inl hlt
   ·have:=h1 y hy;omega
  ·rename_i hlt;refine List.pairwise_cons.2 ⟨fun y hy=>?_,ih h2 (fun y hy=>hp y (jW _ hy))⟩;rcases Mw.1 hy with rfl|hy
   ·have:=hp x List.mem_cons_self;omega
   ·exact h1 y hy
theorem N0 (L:List EI) (x:EI):∀n,n≤L.length→(x∈BN L n↔x∈L.take n):=by
 intro n
 induction n with
 |zero=>intro _;simp [BN]
 |succ n ih=>
  intro hn;rw [BN,jG (show n<L.length by omega),jQ (by omega)];show x∈Ck L[n] (BN L n)↔_;rw [Mw,ih (by omega),jT,jP];exact Or.comm
theorem Yi (L:List EI) (hL:L.Pairwise fun a b=>a.2≤b.2):∀n,n≤L.length→Il (BN L n):=by
 intro n
 induction n with
 |zero=>intro _;simp [BN,Il]
 |succ n ih=>
  intro hn;rw [BN,jG (show n<L.length by omega)];refine Xk (ih (by omega)) fun x hx=>?_
  rw [N0 L x n (by omega)] at hx;obtain ⟨i,hi,rfl⟩:=List.mem_iff_getElem.1 hx;rw [List.getElem_take];rw [jk] at hi;exact List.pairwise_iff_getElem.1 hL i n (by omega) (by omega) (by omega)
theorem Ze (key:ByteArray) (letter:UInt8) (each:Int) (B:List BK):∀n,n≤B.length→
  (∀x,x∈AW key letter each B n↔∃i,∃(hi:i<B.length),i<n∧∃k,k<(each * B[i].2).toNat∧x=(Al key letter [k] B[i].1,(i:Int)))∧(AW key letter each B n).Pairwise fun a b=>a.2≤b.2:=by
 intro n
 induction n with
 |zero=>intro _;exact ⟨fun x=>⟨fun h=>by simp [AW] at h,fun ⟨i,_,h,_⟩=>by omega⟩,by simp [AW]⟩
 |succ n ih=>
  intro hn;obtain ⟨h1,h2⟩:=ih (by omega)
  have hst:AW key letter each B (n+1)=AW key letter each B n++DD key letter each n B[n]:=by
   rw [AW,jG (show n<B.length by omega)]
  have hof:∀x,x∈DD key letter each n B[n]↔∃k,k<(each * B[n].2).toNat∧x=(Al key letter [k] B[n].1,(n:Int)):=fun x=>by
   rw [DD,List.mem_map];exact ⟨fun ⟨k,hk,e⟩=>⟨k,List.mem_range.1 hk,e.symm⟩,fun ⟨k,hk,e⟩=>⟨k,List.mem_range.2 hk,e.symm⟩⟩
  rw [hst];refine ⟨fun x=>?_,List.pairwise_append.2 ⟨h2,?_,?_⟩⟩
  ·rw [jT,h1,hof];constructor
   ·rintro (⟨i,hi,hin,r⟩|r)
    ·exact ⟨i,hi,by omega,r⟩
    ·exact ⟨n,by omega,by omega,r⟩
   ·rintro ⟨i,hi,hin,r⟩;by_cases hi2:i=n
    ·subst hi2;exact Or.inr r
    ·exact Or.inl ⟨i,hi,by omega,r⟩
  ·rw [DD];refine List.pairwise_map.2 (List.pairwise_of_forall ?_);intro _ _;exact Int.le_refl _
  ·intro a ha b hb;obtain ⟨i,_,hin,k,_,rfl⟩:=(h1 a).1 ha;obtain ⟨k',_,rfl⟩:=(hof b).1 hb;show (i:Int)≤(n:Int);omega
theorem UG (key:ByteArray) (letter:UInt8) (each:Int) (B:List BK):
  (∀x,x∈Dk key letter each B↔∃i,∃(hi:i<B.length),∃k,k<(each * B[i].2).toNat∧x=(Al key letter [k] B[i].1,(i:Int)))∧Il (Dk key letter each B):=by
 obtain ⟨h1,h2⟩:=Ze key letter each B B.length (jH _);refine ⟨fun x=>?_,Yi _ h2 _ (jH _)⟩;rw [Dk,N0 _ _ _ (jH _),List.take_length,h1];exact ⟨fun ⟨i,hi,_,r⟩=>⟨i,hi,r⟩,fun ⟨i,hi,r⟩=>⟨i,hi,hi,r⟩⟩
def Gt (p h:Int):Int:=(p - h) % 18446744073709551616
theorem MG {p h:Int} (hp:0≤p∧p<18446744073709551616) (hh:0≤h∧h<18446744073709551616) (hle:h≤p):Gt p h=p - h:=Int.emod_eq_of_lt (by omega) (by omega)
theorem KJ {p h:Int} (hp:0≤p∧p<18446744073709551616) (hh:0≤h∧h<18446744073709551616) (hlt:p<h):Gt p h=p - h+18446744073709551616:=by
 have:(p - h) % 18446744073709551616=(p - h+18446744073709551616) % 18446744073709551616:=by omega
 rw [Gt,this];exact Int.emod_eq_of_lt (by omega) (by omega)
theorem Mu:∀{B:List BK} {b:BK},b∈B→1≤b.2→(∀b∈B,0≤b.2)→1≤As B
 |[],b,h,_,_=>by cases h
 |x::B,b,h,h1,hw=>by
  have hx:=hw x List.mem_cons_self
  have h0:0≤As B:=by
   have:∀B:List BK,(∀b∈B,0≤b.2)→0≤As B:=fun B=>by
    induction B with
    |nil=>intro _;simp [As]
    |cons y B ih=>
     intro h;have h1:=ih (fun x hx=>h x (jW _ hx));have h2:=h y List.mem_cons_self;simp only [As,List.map_cons,List.sum_cons] at h1 ⊢;omega
   exact this B (fun x hx=>hw x (jW _ hx))
  have hs:As (x::B)=x.2+As B:=by simp [As]
  rcases ja.1 h with rfl|h
  ·omega
  ·have:=Mu h h1 (fun x hx=>hw x (jW _ hx));omega
abbrev NI:=Int×ByteArray
def Io (e:NI):List NI→List NI
 |[]=>[e]
 |x::l=>if e.1<x.1 then e::x::l else x::Io e l
theorem Qb (f:EI→NI) (hf:∀e,(f e).1=e.1) (e:EI):∀L:List EI,(Ck e L).map f=Io (f e) (L.map f)
 |[]=>rfl
 |x::l=>by
  rw [Ck,List.map_cons,Io,hf,hf];split
  ·rfl
  ·rw [List.map_cons,Qb f hf e l]
theorem Nw (e:NI):∀(L:List NI) (k:Nat),k≤L.length→(∀i (h:i<L.length),i<k→¬e.1<L[i].1)→(∀h:k<L.length,e.1<L[k].1)→L.take k++e::L.drop k=Io e L
 |[],k,hk,_,_=>by
  have:k=0:=by simpa using hk
  subst this;rfl
 |x::l,0,_,_,h2=>by
  have:=h2 (by simp);simp only [List.getElem_cons_zero] at this;simp [Io,this]
 |x::l,k+1,hk,h1,h2=>by
  have h0:=h1 0 (by simp) (by omega);simp only [List.getElem_cons_zero] at h0
  rw [Io, if_neg h0, List.take_succ_cons, List.drop_succ_cons, List.cons_append, Nw e l k (by simpa using hk) (fun i h hi => by
    have := h1 (i + 1) (by simpa using h) (by omega)
    simpa using this) (fun h => by
    have := h2 (by simpa using h)
    simpa using this)]
theorem U0 {L:List EI} {n:Nat} {e:EI} (h:L[n]?=some e):BN L (n+1)=Ck e (BN L n):=by
 rw [BN,h]
theorem JV {key:ByteArray} {letter:UInt8} {each:Int} {B:List BK} {i:Nat} (h:i<B.length):AW key letter each B (i+1)=AW key letter each B i++DD key letter each i B[i]:=by
 rw [AW,jG h]
theorem VC {key:ByteArray} {letter:UInt8} {each:Int} {B:List BK} (i n:Nat) (hin:i≤n) (hn:n≤B.length):∃R,AW key letter each B n=AW key letter each B i++R:=by
 induction n with
 |zero=>exact ⟨[],by rw [show i=0 by omega];simp⟩
 |succ n ih=>
  by_cases h:i=n+1
  ·exact ⟨[],by rw [h];simp⟩
  ·obtain ⟨R,hR⟩:=ih (by omega) (by omega);exact ⟨R++DD key letter each n B[n],by rw [JV (by omega),hR,List.append_assoc]⟩
theorem RY {key:ByteArray} {letter:UInt8} {each:Int} {B:List BK} (i k:Nat) (hi:i<B.length) (hk:k<(each * B[i].2).toNat):(AW key letter each B B.length)[(AW key letter each B i).length+k]?=some (Al key letter [k] B[i].1,(i:Int)):=by
 obtain ⟨R,hR⟩:=VC (key:=key) (letter:=letter) (each:=each) (B:=B) (i+1) B.length (by omega) (jH _);rw [hR,JV hi,List.append_assoc,List.getElem?_append_right (by omega),Nat.add_sub_cancel_left,List.getElem?_append_left (by simp [DD,hk])];simp [DD,hk]
theorem SN {key:ByteArray} {letter:UInt8} {each:Int} {B:List BK} {i:Nat} (h:i<B.length):(AW key letter each B (i+1)).length=(AW key letter each B i).length+(each * B[i].2).toNat:=by
 rw [JV h];simp [DD]
theorem Xn {n:Nat} {d:Nat→Int} {i j:Nat} (hi:i<n) (hj:j<n) (h1:∀k,k<n→d i≤d k) (h2:∀k,k<i→d i<d k) (h3:∀k,k<n→d j≤d k) (h4:∀k,k<j→d j<d k):i=j:=by
 rcases Nat.lt_trichotomy i j with h|h|h
 ·have:=h4 i h;have:=h1 j hj;omega
 ·exact h
 ·have:=h2 j h;have:=h3 i hi;omega
theorem Vp {E:List EI} {h:Int} (hE:IA E) (hne:0<E.length) (hr:∀x∈E,0≤x.1∧x.1<18446744073709551616) (hh:0≤h∧h<18446744073709551616):
  A8 E h<E.length∧(∀k (hk:k<E.length),Gt (E.getD (A8 E h) (0,0)).1 h≤Gt E[k].1 h)∧∀k (hk:k<E.length),k<A8 E h→Gt (E.getD (A8 E h) (0,0)).1 h<Gt E[k].1 h:=by
 have hget:∀k (hk:k<E.length),E.getD k (0,0)=E[k]:=fun k hk=>by rw [jV,jG hk];rfl
 by_cases hx:∃k,∃(hk:k<E.length),h≤E[k].1
 ·have hfirst:∃k,∃(hk:k<E.length),h≤E[k].1∧∀j (hj:j<E.length),j<k→¬h≤E[j].1:=by
   obtain ⟨k,hk,he⟩:=hx
   induction k using Nat.strongRecOn with
   |ind k ih=>
    by_cases hex:∃j,∃(hj:j<E.length),j<k∧h≤E[j].1
    ·obtain ⟨j,hj,hjk,hej⟩:=hex;exact ih j hjk hj hej
    ·exact ⟨k,hk,he,fun j hj hjk hej=>hex ⟨j,hj,hjk,hej⟩⟩
  obtain ⟨k,hk,he,hall⟩:=hfirst
  rw [OF hk he hall,hget k hk]
  have hrk:=hr _ (jJ hk)
  rw [MG hrk hh he]
  refine ⟨hk,fun j hj=>?_,fun j hj hjk=>?_⟩
  ·have hrj:=hr _ (jJ hj)
   rcases Nat.lt_trichotomy j k with h1|h1|h1
   ·have:=hall j hj h1
    rw [KJ hrj hh (by omega)]
    omega
   ·subst h1
    rw [MG hrj hh he]
    omega
   ·have:=List.pairwise_iff_getElem.1 hE k j hk hj h1
    rw [MG hrj hh (by omega)]
    omega
  ·have hrj:=hr _ (jJ hj)
   have:=hall j hj hjk
   rw [KJ hrj hh (by omega)]
   omega
 ·have hall:∀j (hj:j<E.length),¬h≤E[j].1:=fun j hj he=>hx ⟨j,hj,he⟩
  rw [Nx hall,hget 0 hne];have hrk:=hr _ (jJ hne);have a1:=hall 0 hne;refine ⟨hne,fun j hj=>?_,fun j hj hjk=>by omega⟩;have hrj:=hr _ (jJ hj);have a2:=hall j hj;rw [KJ hrk hh (by omega),KJ hrj hh (by omega)];by_cases hj0:j=0
  ·subst hj0;omega
  ·have:=List.pairwise_iff_getElem.1 hE 0 j hne hj (by omega);omega
def I8 (B:List BK) (s:ByteArray):Prop:=s.size=0∨∃b∈B,b.1=s
def CG (ids:List ByteArray):List EN:=ids.map fun s=>(s,0,0)
theorem Kv (ids:List ByteArray):(CG ids).length=ids.length:=by simp [CG]
theorem XC (ids:List ByteArray) (k:Nat) (x:ByteArray):Av (CG (ids.set k x))=(Av (CG ids)).set (k * 3) (.string x):=by
 induction ids generalizing k with
 |nil=>simp [CG,Av]
 |cons s S ih=>
  cases k with
  |zero=>simp [CG,Av]
  |succ k=>
   have e:(k+1) * 3=k * 3+1+1+1:=by omega
   have:=ih k;simp only [CG,Av,List.set_cons_succ,List.map_cons,List.flatMap_cons,List.cons_append,List.nil_append,e] at this ⊢;rw [this]
def DG (base g:Nat) (w:World) (ids:List ByteArray):Prop:=w.ownsRow base 183 3 (sl g ids.length ids.length) ids.length (Av (CG ids))
theorem UD (n:Nat) (s:ByteArray):(madeCells #[Value.string s,.int .i64 0,.int .i64 0] (n * 3)).toList=Av (CG (List.replicate n s)):=by
 have hl:(CG (List.replicate n s)).length=n:=by simp [CG]
 apply List.ext_getElem?;intro j;by_cases hj:j<n * 3
 ·have hq:j / 3<(CG (List.replicate n s)).length:=by rw [hl];omega
  obtain ⟨g0,g1,g2⟩:=Ig (CG (List.replicate n s)) (j / 3) hq;have hget:(CG (List.replicate n s))[j / 3]=(s,0,0):=by simp [CG]
  rw [hget] at g0 g1 g2;have hL:(madeCells #[Value.string s,.int .i64 0,.int .i64 0] (n * 3)).toList[j]?=some (#[Value.string s,.int .i64 0,.int .i64 0][j % 3]!):=by simp [madeCells,hj]
  rw [hL];rcases (show j % 3=0∨j % 3=1∨j % 3=2 by omega) with h|h|h
  ·rw [h,show j=j / 3 * 3 by omega,g0];rfl
  ·rw [h,show j=j / 3 * 3+1 by omega,g1];rfl
  ·rw [h,show j=j / 3 * 3+2 by omega,g2];rfl
 ·rw [List.getElem?_eq_none (by simp [size_madeCells];omega),List.getElem?_eq_none (by rw [Iv,hl];omega)]
theorem DG.made {base:Nat} {w:World} {g n:Nat} (h:w.ownsRow base 183 3 (.slice (some ⟨g,0,none⟩) n n) n (madeCells #[Value.string ByteArray.empty,.int .i64 0,.int .i64 0] (n * 3)).toList):DG base g w (List.replicate n ByteArray.empty):=by
 unfold DG sl;rw [List.length_replicate,←UD];exact h
theorem DG.later {base g:Nat} {w w':World} {ids:List ByteArray} (h:DG base g w ids) (k:Aa w w'):DG base g w' ids:=BG h k
theorem DG.set {base g:Nat} {w:World} {ids:List ByteArray} (h:DG base g w ids) (k:Nat) (x:ByteArray):DG base g (w.setCell ⟨g,k * 3,none⟩ (.string x)) (ids.set k x):=by
 have hs:=World.ownsRow.stored h (k * 3) (.string x);unfold DG;rw [XC,sl,List.length_set];exact hs.1
theorem DG.cell {base g:Nat} {w:World} {ids:List ByteArray} (h:DG base g w ids) {k:Nat} (hk:k<ids.length):w.cell? ⟨g,k * 3,none⟩=some (.string ids[k])∧w.frozen? ⟨g,k * 3,none⟩=false:=by
 have hl:k<(CG ids).length:=by rw [Kv];exact hk
 refine ⟨(World.ownsRow.cellAt h (k * 3) (by omega)).trans ?_,World.ownsRow.frozenAt h (k * 3)⟩;rw [(Ig (CG ids) k hl).1];simp [CG]
def free (s:ByteArray):Bool:=decide (s.size=0)
def emp (ids:List ByteArray):Nat:=ids.countP free
theorem Xh {ids:List ByteArray} {k:Nat} (hk:k<ids.length) (h0:ids[k].size=0) {x:ByteArray} (hx:x.size≠0):emp (ids.set k x)+1=emp ids:=by
 have h1:free ids[k]=true:=jL h0;have h2:free x=false:=jK hx;have h3:0<emp ids:=List.countP_pos_iff.2 ⟨_,jJ hk,h1⟩;unfold emp at *;rw [List.countP_set hk,h1,h2];simp;omega
theorem Qy {ids:List ByteArray} {n:Nat} (hl:ids.length=n) (hpr:∀d:Nat,2≤d→d<n→n % d≠0) (hn:2≤n) (o s:Int) (ho:0≤o) (hs1:1≤s) (hs2:s<n) (he:0<emp ids):∃i,i<n∧∃h:A0 n (o,s) i<ids.length,(ids[A0 n (o,s) i]'h).size=0:=by
 obtain ⟨x,hx,hf⟩:=List.countP_pos_iff.1 he;obtain ⟨v,hv,rfl⟩:=List.mem_iff_getElem.1 hx;obtain ⟨i,hi,e⟩:=Tc n hn hpr o s ho hs1 hs2 v (by omega);refine ⟨i,hi,by rw [e];exact hv,?_⟩;have h1:ids[v].size=0:=of_decide_eq_true hf;simp only [e];exact h1
theorem isEmpty_iff (s:ByteArray):s.toList.isEmpty=true↔s.size=0:=by
 rw [ByteArray.toList_eq,List.isEmpty_iff,←List.length_eq_zero_iff];rfl
theorem RL {n:Nat} {o s:Int} (ho:0≤o) (ho2:o<n):((A0 n (o,s) 0:Nat):Int)=o:=by
 unfold A0;simp only [Int.natCast_zero,Int.zero_mul,Int.add_zero];rw [Int.emod_eq_of_lt ho ho2];omega
theorem T2 {n:Nat} (hn:0<n) (o s:Int) (i:Nat):((A0 n (o,s) (i+1):Nat):Int)=((A0 n (o,s) i:Nat)+s) % n:=by
 unfold A0;have h2:=Int.emod_nonneg (o+(i:Int) * s) (show (n:Int)≠0 by omega);have h3:=Int.emod_nonneg (o+((i+1:Nat):Int) * s) (show (n:Int)≠0 by omega);rw [Int.toNat_of_nonneg h2,Int.toNat_of_nonneg h3,Int.emod_add_emod];congr 1;push_cast;rw [Int.add_mul];omega
theorem Vt (m:Int) (B:List BK) (hm:0≤m) (hB:AL B):((DJ m B).sum=0∧∀x∈DJ m B,x=0)∨((DJ m B).sum=m∧1≤As B):=by
 unfold DJ;split
 ·refine Or.inl ⟨?_,fun x hx=>List.eq_of_mem_replicate hx⟩;generalize B.length=n
  induction n with
  |zero=>rfl
  |succ n ih=>simp [List.replicate_succ]
 ·exact Or.inr ⟨(Ma m B hm (fun b hb=>(hB.2 b hb).2.2.1) (by omega)).1,by omega⟩
theorem QK (m:Int) (B:List BK):(DJ m B).length=B.length:=by
 unfold DJ;split
 ·simp
 ·exact M4 m B (by omega)
theorem XJ (m:Int) (B:List BK) (hm:0≤m) (hB:AL B):∀x∈DJ m B,0≤x:=by
 intro x hx;unfold DJ at hx;split at hx
 ·have:=List.eq_of_mem_replicate hx;omega
 ·have h:=Ma m B hm (fun b hb=>(hB.2 b hb).2.2.1) (by omega);obtain ⟨j,hj,rfl⟩:=List.mem_iff_getElem.1 hx;have:=(h.2.2 j (by omega)).1;rw [jV,jG hj] at this;exact this
theorem GW:∀{L:List Int},(∀x∈L,0≤x)→(∀x∈L,x≤L.sum)∧0≤L.sum
 |[],_=>by simp
 |y::L,h=>by
  obtain ⟨h1,h2⟩:=GW (L:=L) (fun x hx=>h x (jW _ hx));have h3:=h y List.mem_cons_self;rw [List.sum_cons];refine ⟨fun x hx=>?_,by omega⟩;rcases ja.1 hx with rfl|hx
  ·omega
  ·have:=h1 x hx;omega
theorem MZ {L:List Int} (h:∀x∈L,0≤x) (k:Nat):0≤(L.take k).sum∧(L.take k).sum≤L.sum:=by
 have h1:=(GW (L:=L.take k) (fun x hx=>h x (List.mem_of_mem_take hx))).2;have h2:=(GW (L:=L.drop k) (fun x hx=>h x (List.mem_of_mem_drop hx))).2;have h3:L.sum=(L.take k).sum+(L.drop k).sum:=by rw [←List.sum_append,List.take_append_drop]
 omega
def IU (W:World) (B:List BK) (gq cq go n:Nat) (Q:List Int) (ids:List ByteArray) (wr:World):Prop:=Aa W wr∧BS W.heap.size wr (sl gq Q.length cq) Q∧DG W.heap.size go wr ids∧gq≠go∧Q.length=B.length∧ids.length=n∧(∀x∈Q,0≤x)∧(∀s∈ids,I8 B s)∧Q.sum=emp ids
end Go.Proofs.YtpapdkhjdelfcabGreat
