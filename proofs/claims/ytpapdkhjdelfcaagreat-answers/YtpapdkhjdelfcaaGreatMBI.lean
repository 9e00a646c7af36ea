import Derived.Test.YtpapdkhjdelfcaaGreatMBG
import Derived.Test.YtpapdkhjdelfcaaGreatMBH
namespace Go.Proofs.YtpapdkhjdelfcaaGreat
open Go.RowKit
set_option maxRecDepth 100000
set_option maxHeartbeats 4000000
theorem ZcS {B:List BK} {id:jt} (h:∃b∈B,b.1=id):∃i,∃a:i<B.length,B[i].1=id:=by
 obtain ⟨b,c,e⟩:=h;obtain ⟨i,a,rfl⟩:=List.getElem_of_mem c;exact ⟨i,a,e⟩
theorem Zfz {B:List BK} (a:AH B) {i j:Nat} (b:i<B.length) (c:j<B.length):(B[i].1.toList==B[j].1.toList)=decide (i=j):=by
 by_cases e:i=j
 .subst e;rw [jL rfl];exact FE.2 rfl
 .rw [jK e];cases h:(B[i].1.toList==B[j].1.toList)
  .rfl
  .exact absurd (FE.1 h) (a.2.ne b c e)
theorem Zdw {B:List BK} (a:AH B) {E:List EN} (d:∀x∈E,∃b∈B,b.1=x.1) {j:Nat} (f:j<B.length):Dg (E.map (Zai B)) j=Zcy E B[j].1:=by
 unfold Dg Zcy;rw [List.countP_map];refine List.countP_congr fun x hx=>?_
 obtain ⟨i,c,e⟩:=ZcS (d x hx);show ((Bq x.1 B:Int)==(j:Int))=true↔_;rw [<-e,RM a.2 c,Zfz a c f];simp;omega
theorem Zeh {B:List BK} (a:AH B) {i j:Nat} (b:i<B.length) (c:j<B.length):AO B[i].1 B[j].1=decide (i<j):=by
 by_cases h:i<j
 .rw [jL h];exact List.pairwise_iff_getElem.1 a.2 i j b c h
 .rw [jK h];by_cases e:i=j
  .subst e;exact Ln _
  .exact Qj (List.pairwise_iff_getElem.1 a.2 j i c b jo)
theorem ZdW {a b c d:Int} (f:Af a) (g:Af b) (i:Af c) (k:Af d):wv a b=wv c d↔a=c/\b=d:=by
 obtain ⟨l,m⟩:=f;obtain ⟨n,o⟩:=g;obtain ⟨p,q⟩:=i;obtain ⟨r,s⟩:=k;unfold wv;omega
theorem ZdA {B:List BK} (c:AH B) {a b:EN} (l:∃x∈B,x.1=a.1) (m:∃x∈B,x.1=b.1) (d:Af a.2.1/\Af a.2.2) (f:Af b.2.1/\Af b.2.2):ZcC a b↔Ii (Zai B a) (Zai B b):=by
 obtain ⟨i,g,n⟩:=ZcS l;obtain ⟨j,k,o⟩:=ZcS m;unfold ZcC Ii Zai;rw [<-n,<-o,RM c.2 g,RM c.2 k,Zeh c k g,<-ZdW d.1 d.2 f.1 f.2];simp only [decide_eq_false_iff_not];omega
def ZcM (f:Nat->Nat):Nat->Nat
 |0=>0
 |n+1=>ZcM f n+f n
theorem ZdO (f:Nat->Nat) (g:Nat->Nat) (k:Nat) (a:∀j,g j=f j+if j=k then 1 else 0):∀n,ZcM g n=ZcM f n+if k<n then 1 else 0
 |0=>by simp [ZcM]
 |n+1=>by
  rw [ZcM,ZcM,ZdO f g k a n,a n];by_cases e:n=k
  .subst e;rw [if_pos rfl,if_neg jo,if_pos jo];omega
  .by_cases h:k<n
   .rw [if_pos h,if_neg e,if_pos jo];omega
   .rw [if_neg h,if_neg e,if_neg jo];omega
theorem ZeW (n:Nat):ZcM (fun _=>0) n=0:=by
 induction n with
 |zero=>rfl
 |succ n ih=>rw [ZcM,ih]
theorem ZdE {n:Nat}:∀(E:List EI),(∀e∈E,0<=e.2/\e.2<n)->ZcM (fun j=>Dg E j) n=E.length
 |[],_=>ZeW n
 |e::E,h=>by
  obtain ⟨k,b⟩:=jM (h e js).1;have a:k<n:=by have:=(h e js).2;omega
  rw [ZdO (fun j => Dg E j) (fun j => Dg (e :: E) j) k (fun j => by
    unfold Dg
    rw [List.countP_cons, b]
    congr 1
    by_cases c : j = k
    . subst c; simp
    . rw [if_neg c, if_neg (by simp; omega)]), ZdE E (fun x hx => h x (by simp [hx])), if_pos a]
  simp
theorem ZdN {c:Ac} {B:List BK} {E:List EI} (h:Gs c B E):∀k,k<=B.length->((ZcM (fun j=>Dg E j) k:Nat):Int)=Ei c * As (B.take k)
 |0,_=>by simp [ZcM,As]
 |k+1,hk=>by
  have a:=ZdN h k jo;have b:=h k jo;rw [ZcM,Lc B k jo,Int.mul_add,<-a,<-b];omega
theorem ZcQ {c:Ac}:Fq c.alg=true↔EV c:=by
 unfold Fq EV;simp
theorem Zdb {c:Ac} {p:Int} {B:List BK} {E:List EN} (m:AH B) (o:∀x∈E,∃b∈B,b.1=x.1) (u:∀x∈E,Af x.2.1/\Af x.2.2):Zcw c p B E↔c.OK/\(1<=p/\p<=1073741824)/\IN c B (E.map (Zai B)):=by
 have t:∀e∈E.map (Zai B),0<=e.2/\e.2<(B.length:Nat):=by
  intro e y;obtain ⟨x,hx,rfl⟩:=List.mem_map.1 y;obtain ⟨i,g,v⟩:=ZcS (o x hx);unfold Zai;rw [<-v,RM m.2 g];exact ⟨jv,jv⟩
 have k:(∀j (h:j+1<E.length),ZcC E[j] E[j+1])↔GC (E.map (Zai B)):=by
  constructor
  .intro h i g;rw [je] at g;rw [List.getElem_map,List.getElem_map];exact (ZdA m (o _ (jJ _)) (o _ (jJ _)) (u _ (jJ _)) (u _ (jJ _))).1 (h i g)
  .intro h i g;have:=h i (by rw [je];exact g);rw [List.getElem_map,List.getElem_map] at this;exact (ZdA m (o _ (jJ _)) (o _ (jJ _)) (u _ (jJ _)) (u _ (jJ _))).2 this
 have I:=(Pd m.1).1;have l:EV c->((∀j (h:j<B.length),(Zcy E B[j].1:Int)=Ei c * B[j].2)↔Gs c B (E.map (Zai B))):=fun _=>⟨fun h j a=>by rw [Zdw m o a];exact h j a,fun h j a=>by rw [<-Zdw m o a];exact h j a⟩
 have f:(∀j (h:j<B.length),B[j].2=0->Zcy E B[j].1=0)↔∀e∈E.map (Zai B),Fr B e.2:=by
  constructor
  .intro h e y;obtain ⟨x,hx,rfl⟩:=List.mem_map.1 y;obtain ⟨i,g,v⟩:=ZcS (o x hx);refine ⟨i,g,?_,?_⟩
   .unfold Zai;rw [<-v,RM m.2 g]
   .have J:=(m.1.2 B[i] (jJ g)).2.2.1;rcases Int.lt_or_eq_of_le J with q|q
    .exact q
    .have r:=h i g q.symm;have:0<Zcy E B[i].1:=List.countP_pos_iff.2 ⟨x,hx,FE.2 v.symm⟩;omega
  .intro h j a r;rcases Nat.eq_zero_or_pos (Zcy E B[j].1) with q|q
   .exact q
   .obtain ⟨x,hx,z⟩:=List.countP_pos_iff.1 q;obtain ⟨i,g,A,N⟩:=h (Zai B x) (List.mem_map.2 ⟨x,hx,rfl⟩);have K:=FE.1 z;unfold Zai at A;rw [K,RM m.2 a] at A;have:i=j:=by simp only at A;omega
    subst this;omega
 unfold Zcw IN;constructor
 .rintro ⟨C,D,n,F,w⟩;refine ⟨C,D,?_,f.1 (fun j a=>(n j a).2),fun d=>⟨k.1 (w (ZcQ.1 d)),(l (ZcQ.1 d)).1 (fun j a=>(n j a).1 (ZcQ.1 d))⟩⟩;by_cases d:EV c
  .have L:=(l d).1 (fun j a=>(n j a).1 d);have H:=ZdN L B.length (jH _);rw [ZdE _ t,List.take_length] at H;rw [H];unfold GM;by_cases r:As B<1
   .rw [if_pos r,show As B=0 by omega,Int.mul_zero]
   .rw [if_neg r,if_pos (ZcQ.2 d)]
  .have s:¬(Fq c.alg=true):=fun h=>d (ZcQ.1 h)
   unfold GM;rcases F d with ⟨M,G⟩|⟨M,G⟩
   .rw [if_neg jo,if_neg s,je];exact G
   .rw [if_pos jo,G];rfl
 .rintro ⟨C,D,n,F,w⟩;refine ⟨C,D,fun j a=>⟨fun d=>(l d).2 (w (ZcQ.2 d)).2 j a,f.2 F j a⟩,fun d=>?_,fun d=>k.2 (w (ZcQ.2 d)).1⟩;have s:¬(Fq c.alg=true):=fun h=>d (ZcQ.1 h)
  unfold GM at n;rw [je] at n;by_cases r:As B<1
  .rw [if_pos r] at n;exact Or.inr ⟨jo,jS jo⟩
  .rw [if_neg r,if_neg s] at n;exact Or.inl ⟨jo,n⟩
theorem Zdk {k:Nat} {X Y:jz} {t:jy} (h:DU k X=some (t,Y)):t.length=k/\X=Az t++Y:=by
 unfold DU at h;split at h
 .cases h
 .rename_i d;injection h with h
  injection h with h1 h2
  have c:(X.take (8 * k)).length=8 * k:=by rw [jk];omega
  have b:=Zbi k (X.take (8 * k)) c;rw [h1] at b;have a:=Bk t;rw [b,c] at a;exact ⟨jo,by rw [b,<-h2,List.take_append_drop]⟩
theorem ZdS {α:Type} {P:List Bool->Option (α×List Bool)} {enc:α->List Bool} (f:∀X a Y,P X=some (a,Y)->X=enc a++Y):∀(n:Nat) (X:jz) (L:List α) (Y:jz),BY P n X=some (L,Y)->X=L.flatMap enc++Y:=by
 intro n
 induction n with
 |zero=>
  intro X L Y h;have:(([]:List α),X)=(L,Y):=by simpa [BY] using h
  injection this with b c
  subst b c;rfl
 |succ n ih=>
  intro X L Y h;rw [BY] at h;cases b:BY P n X with
  |none=>rw [b] at h;cases h
  |some y=>
   rw [b] at h;have d:(P y.2).map (fun z=>(y.1++[z.1],z.2))=some (L,Y):=h;cases c:P y.2 with
   |none=>rw [c] at d;cases d
   |some z=>
    rw [c] at d;have g:(y.1++[z.1],z.2)=(L,Y):=by simpa using d
    injection g with h4 h5
    rw [ih X y.1 y.2 b,f y.2 z.1 z.2 c,<-h4,<-h5];simp
theorem ZdC {α:Type} {P:List Bool->Option (α×List Bool)} {n:Nat} {X:jz} {L:List α} {r:jz} (h:BY P n X=some (L,r)):L.length=n:=(NV (Q:=fun _=>True) (fun _ _ _ _=>trivial) n X L r h).1
theorem Zef {X Y:jz} {b:BK} (h:Kw X=some (b,Y)):X=Gk b++Y:=by
 unfold Kw at h;obtain ⟨k,n,a,h⟩:=Da h;obtain ⟨t,o,c,h⟩:=Da h;obtain ⟨x,p,d,h⟩:=Da h;injection h with h
 injection h with hb hY
 have f:=(Dx a).2;obtain ⟨g,i⟩:=Zdk c;have l:=(Dx d).2;rw [f,i,l,<-hb,<-hY];have m:(Ai t).size=k:=by rw [<-g];simp [Ai,ByteArray.size]
 unfold Gk;simp only [Zau,m,Int.toNat_natCast,List.append_assoc]
theorem Zev {X Y:jz} {B:List BK} (h:Ie X=some (B,Y)):X=Gd B++Y:=by
 unfold Ie at h;obtain ⟨n,b,c,h⟩:=Da h;have d:=(Dx c).2;have f:=ZdS (enc:=Gk) (fun X a Y h=>Zef h) n b B Y h;have g:=(ZdC h);rw [d,f];unfold Gd;rw [g,List.append_assoc]
theorem ZfF {X Y:jz} {f g:Nat} {c:Ac} (h:Im X=some ((f,g,c),Y)):Az [67,72]++X=JG f g c++Y:=by
 unfold Im at h;obtain ⟨n,o,a,h⟩:=Da h;obtain ⟨p,q,b,h⟩:=Da h;obtain ⟨r,s,d,h⟩:=Da h;obtain ⟨t,u,i,h⟩:=Da h;obtain ⟨v,w,k,h⟩:=Da h;obtain ⟨x,y,l,h⟩:=Da h;obtain ⟨z,A,m,h⟩:=Da h;injection h with h
 injection h with hb hY
 injection hb with hf hb
 injection hb with hg hc
 rw [(Dx a).2,(Dx b).2,(Dx d).2,(Dx i).2,(Dx k).2,(Dx l).2,(Zdk m).2,<-hf,<-hg,<-hc,<-hY];unfold JG;simp only [Zau,Int.toNat_natCast,List.append_assoc,List.nil_append]
theorem ZfG {wp wo:Nat} (a:wo<=16) {X Y:jz} {e:EI} (h:FB wp wo X=some (e,Y)):X=MK wp wo e++Y:=by
 obtain ⟨x,y,rfl,hx,b,e⟩:=OL h;have c:y<65536:=jN b (jX (Nat.pow_le_pow_right ji a) ji);have d:Hk (y:Int)=y:=by unfold Hk;omega
 rw [e];unfold MK;simp only [Int.toNat_natCast,d,List.append_assoc]
theorem Zdy {X:jz} (h:BW (some X)=true):X.length<8/\X=List.replicate X.length false:=by
 have a:(decide (X.length<8) && decide (AD X=0))=true:=h;rw [Bool.and_eq_true,decide_eq_true_eq,decide_eq_true_eq] at a;refine ⟨a.1,?_⟩;have b:=Pg X;have c:=Pg (List.replicate X.length false);have d:=ZbH [] X.length;rw [List.nil_append] at d;rw [List.length_replicate,d,show AD [] * 2 ^ X.length=0 by simp [AD]] at c;rw [a.2] at b;exact b.symm.trans c
theorem ZfB (f alg:Int) (n:Nat):CX f alg n<=16:=by
 have:=YF n;unfold CX;split
 .omega
 .split <;>omega
theorem Ze1 {l:jy} {f g:Nat} {c:Ac} {B:List BK} {E:List EI} (h:Bj l=some (f,g,c,B,E)):l=BJ f g c B E:=by
 unfold Bj at h;cases i:CQ l with
 |none=>rw [i] at h;cases h
 |some b=>
  rw [i,Option.bind_some] at h;unfold Kf at h;obtain ⟨Q,t,R,r,D,h⟩:=FT h;split at h
  .rename_i F;subst F;unfold Jc at h;obtain ⟨_,G,S,s,H,h⟩:=FT h;split at h
   .obtain ⟨o,u,k⟩:=G;unfold KO at h;obtain ⟨_,p,T,v,I,h⟩:=FT h;split at h
    .unfold Ky at h;obtain ⟨_,n,J,w,K,h⟩:=FT h;unfold Lp at h;obtain ⟨_,q,x,y,C,h⟩:=FT h;unfold II at h;split at h
     .rename_i m;injection h with h
      injection h with q1 h
      injection h with q2 h
      injection h with q3 h
      injection h with q4 q5
      simp only at q1 q2 q3;subst q1 q2 q3 q4 q5;injection r with r
      injection s with s
      injection v with v
      injection w with w
      injection y with y
      subst r s v w y;obtain ⟨L,M⟩:=Zdy m.1
      have d:Az b=DS o u k p q++List.replicate x.length false:=by
       have N:=ZdS (enc:=MK (CO k.alg) (CX o k.alg p.length)) (fun X a Y h=>ZfG (ZfB _ _ _) h) n J q x C;have O:=ZdC C;rw [(Zdk D).2,ZfF H,Zev I,(Dx K).2,N,<-O,<-M];unfold DS EW;simp only [List.append_assoc]
      have z:=Bk b;rw [d,jO,List.length_replicate] at z
      have A:AK (DS o u k p q)=b:=by
       rw [<-ZaV (DS o u k p q) x.length L jo,<-d,ZaP]
      unfold BJ;rw [A];unfold CQ at i;split at i
      .cases i
      .split at i
       .rename_i P;injection i with i
        rw [<-i,<-P,List.take_append_drop]
       .cases i
     .cases h
    .cases h
   .cases h
  .cases h
theorem Zgq (L:jz) (k:Nat):AD (L++List.replicate k false)=AD L * 2 ^ k:=by
 induction k with
 |zero=>simp
 |succ k ih=>
  rw [List.replicate_succ',<-List.append_assoc,Ht,ih,Nat.pow_succ];simp only [Bool.toNat_false,Nat.add_zero];rw [Nat.mul_comm 2,Nat.mul_assoc]
theorem ZdV:∀(n:Nat) (L:jz),L.length<=n->∃z,z<8/\Az (AK L)=L++List.replicate z false
 |0,L,h=>by
  rw [jS (by omega:L.length=0)];exact ⟨0,jo,rfl⟩
 |n+1,L,h=>by
  by_cases b:L.length=0
  .rw [jS b];exact ⟨0,jo,rfl⟩
  by_cases c:L.length<8
  .refine ⟨8 - L.length,jo,?_⟩;rw [MX L jo c,<-Zgq];show BT _++[]=_;rw [List.append_nil,Lw _ (by rw [jO,List.length_replicate];omega)]
  .have a:=Lw (L.take 8) (by rw [jk];omega);obtain ⟨z,d,f⟩:=ZdV n (L.drop 8) (by rw [jh];omega);refine ⟨z,d,?_⟩;have g:L=BT (UInt8.ofNat (AD (L.take 8)))++L.drop 8:=by rw [a,List.take_append_drop]
   have i:AK L=UInt8.ofNat (AD (L.take 8))::AK (L.drop 8):=by
    have:=Nn (UInt8.ofNat (AD (L.take 8))) (L.drop 8);rwa [<-g] at this
   rw [i];show BT _++Az (AK (L.drop 8))=_;rw [f,a,<-List.append_assoc,List.take_append_drop]
theorem ZeM (z:Nat) (h:z<8):BW (some (List.replicate z false))=true:=by
 have:AD (List.replicate z false)=0:=by
  have:=Zgq [] z;simpa [AD] using this
 simp [BW,h,this]
theorem ZcK {n W:Nat} (Y:jz) (h:n<2 ^ W):A9 W (Ax n W++Y)=some (n,Y):=by
 have a:=Bd n W;unfold A9;rw [if_neg (by rw [jO,a];omega),List.take_left' a,List.drop_left' a,M5,Nat.mod_eq_of_lt h]
theorem Zdo {k:Nat} (l:jy) (Y:jz) (h:l.length=k):DU k (Az l++Y)=some (l,Y):=by
 have a:(Az l).length=8 * k:=by rw [Bk,h]
 have b:AK (Az l)=l:=by have:=J4 l [];simpa [AK] using this
 unfold DU;rw [if_neg (by rw [jO,a];omega),List.take_left' a,List.drop_left' a,b]
theorem ZcF {α β:Type} {P:List Bool->Option (α×List Bool)} {Q:α->List Bool->Option (β×List Bool)} {X Y:jz} {a:α} (h:P X=some (a,Y)):Bo P Q X=Q a Y:=by
 unfold Bo;rw [h];rfl
theorem ZdX {α:Type} {P:List Bool->Option (α×List Bool)} {enc:α->List Bool} (l:List α) (h:∀a∈l,∀Y,P (enc a++Y)=some (a,Y)) (Y:jz):BY P l.length (l.flatMap enc++Y)=some (l,Y):=by
 have key:∀n,n<=l.length->BY P n (l.flatMap enc++Y)=some (l.take n,(l.drop n).flatMap enc++Y):=by
  intro n
  induction n with
  |zero=>intro _;simp [BY]
  |succ n ih=>
   intro c;have b:n<l.length:=jo
   rw [BY,ih jo];rw [List.drop_eq_getElem_cons b,List.flatMap_cons,List.append_assoc];show (P (enc l[n]++_)).map _=_;rw [h _ (jJ b),jQ b];rfl
 have:=key l.length (jH _);simpa using this
theorem ZeX (b:BK) (h:AL [b]) (Y:jz):Kw (Gk b++Y)=some (b,Y):=by
 obtain ⟨c,d,a,f⟩:=h.2 b js;obtain ⟨id,n⟩:=b;simp only at c d a f;have g:id.data.toList.length=id.size:=by rw [Array.length_toList];rfl
 unfold Kw Gk;rw [List.append_assoc,List.append_assoc];rw [ZcF (ZcK (W:=8) _ (by show id.size<256;omega)),ZcF (Zdo id.data.toList _ g),ZcF (ZcK (W:=8) _ (by show n.toNat<256;omega))];show some ((Ai id.data.toList,(n.toNat:Int)),Y)=_;rw [Int.toNat_of_nonneg a];rfl
theorem ZeA (B:List BK) (h:AL B) (Y:jz):Ie (Gd B++Y)=some (B,Y):=by
 have c:=h.1;unfold Ie Gd;rw [List.append_assoc,ZcF (ZcK (W:=8) _ (by show B.length<256;omega))];exact ZdX B (fun b a Y=>ZeX b ⟨js,fun x hx=>by rw [jP.1 hx];exact h.2 b a⟩ Y) Y
theorem Zfd (f g:Nat) (c:Ac) (b:f<256) (d:g<4294967296) (i:c.TOK) (Y:jz):DU 2 (JG f g c++Y)=some ([67,72],Ax f 8++(Ax c.alg.toNat 8++(Ax g 32++(Ax c.slots.toNat 16++(Ax c.points.toNat 8++(Ax c.probes.toNat 8++(Az c.key.data.toList++Y)))))))/\
  Im (Ax f 8++(Ax c.alg.toNat 8++(Ax g 32++(Ax c.slots.toNat 16++(Ax c.points.toNat 8++(Ax c.probes.toNat 8++(Az c.key.data.toList++Y)))))))=some ((f,g,{c with formats:=0}),Y):=by
 obtain ⟨l,m,n,o, -,p,q,r,s,a⟩:=i;have k:c.key.data.toList.length=16:=by rw [Array.length_toList];exact a
 refine ⟨?_,?_⟩
 .unfold JG;simp only [List.nil_append,List.append_assoc];exact Zdo [67,72] _ rfl
 .unfold Im;rw [ZcF (ZcK (W:=8) _ b),ZcF (ZcK (W:=8) _ (by show c.alg.toNat<256;omega)),ZcF (ZcK (W:=32) _ d),ZcF (ZcK (W:=16) _ (by show c.slots.toNat<65536;omega)),ZcF (ZcK (W:=8) _ (by show c.points.toNat<256;omega)),ZcF (ZcK (W:=8) _ (by show c.probes.toNat<256;omega)),ZcF (Zdo _ _ k)];show some ((f,g,(⟨(c.alg.toNat:Int),(c.slots.toNat:Int),(c.points.toNat:Int),(c.probes.toNat:Int),Ai c.key.data.toList,0⟩:Ac)),Y)=_;rw [Int.toNat_of_nonneg jo,Int.toNat_of_nonneg jo,Int.toNat_of_nonneg jo,Int.toNat_of_nonneg jo];rfl
theorem Zfe {j n:Nat} (h:j<n) (a:n<=8):j<2 ^ Gf n:=by
 unfold Gf G3;rcases (show n=1\/n=2\/n=3\/n=4\/n=5\/n=6\/n=7\/n=8 by omega) with rfl|rfl|rfl|rfl|rfl|rfl|rfl|rfl <;>simp <;>omega
def ZdI (alg:Int) (n:Nat) (e:EI):Prop:=0<=e.1/\(e.1<18446744073709551616)/\(Fq alg=false->e.1=0)/\0<=e.2/\e.2<n
theorem Zep {f:Nat} {alg:Int} {n:Nat} {e:EI} (a:n<=8) (h:ZdI alg n e) (Y:jz):FB (CO alg) (CX f alg n) (MK (CO alg) (CX f alg n) e++Y)=some (e,Y):=by
 obtain ⟨c,i,d,g,k⟩:=h;obtain ⟨x,y⟩:=e;simp only at c i d g k;have l:Hk y=y.toNat:=by unfold Hk;omega
 have b:y.toNat<n:=jo
 have m:y.toNat<2 ^ CX f alg n:=by
  unfold CX;split
  .exact Zfe b a
  .split
   .exact jN b (jX a ji)
   .exact jN b (jX a ji)
 have hx:x.toNat<2 ^ CO alg:=by
  unfold CO;cases o:Fq alg
  .rw [d o];decide
  .show x.toNat<2 ^ 64;omega
 unfold FB MK;rw [List.append_assoc,l,ZcF (ZcK _ hx),ZcF (ZcK _ m)];show some (((x.toNat:Int),(y.toNat:Int)),Y)=_;rw [Int.toNat_of_nonneg c,Int.toNat_of_nonneg g]
theorem ZfJ {f g:Nat} {c:Ac} {B:List BK} {E:List EI} (o:1<=f/\f<=2) (k:c.TOK) (d:AH B) (p:∀e∈E,ZdI c.alg B.length e) (q:E.length<65536) (l:DR g c B E):Bj (BJ f g c B E)=some (f,g,{c with formats:=0},B,E):=by
 obtain ⟨z,r,a⟩:=ZdV _ (DS f g c B E) (jH _)
 have m:0<(AK (DS f g c B E)).length:=by
  rcases Nat.eq_zero_or_pos (AK (DS f g c B E)).length with e|e
  .exfalso;have s:=congrArg List.length a;rw [Bk,e,jO] at s
   have:0<(DS f g c B E).length:=by
    unfold DS JG;simp only [jO,Bk,List.length_cons];omega
   omega
  .exact e
 have i:CQ (BJ f g c B E)=some (AK (DS f g c B E)):=by
  unfold BJ CQ;have n:(Cn (CB (AK (DS f g c B E)))).length=4:=rfl;have e:(AK (DS f g c B E)++Cn (CB (AK (DS f g c B E)))).length - 4=(AK (DS f g c B E)).length:=by rw [jO,n];omega
  rw [if_neg (by rw [jO,n];omega),e,List.take_left',List.drop_left',if_pos rfl]
  .rfl
  .rfl
 have t:=l.1.2
 have b:DS f g c B E++List.replicate z false=JG f g c++(Gd B++(Ax E.length 16++(EW (CO c.alg) (CX f c.alg B.length) E++List.replicate z false))):=by
  unfold DS;simp only [List.append_assoc]
 obtain ⟨u,v⟩:=Zfd f g c jo jo k (Gd B++(Ax E.length 16++(EW (CO c.alg) (CX f c.alg B.length) E++List.replicate z false)));have w:=ZeA B d.1 (Ax E.length 16++(EW (CO c.alg) (CX f c.alg B.length) E++List.replicate z false));have x:=ZcK (W:=16) (EW (CO c.alg) (CX f c.alg B.length) E++List.replicate z false) (by show E.length<65536;exact q);have y:=ZdX (P:=FB (CO c.alg) (CX f c.alg B.length)) (enc:=MK (CO c.alg) (CX f c.alg B.length)) E (fun e A Y=>Zep d.1.1 (p e A) Y) (List.replicate z false);unfold Bj;rw [i,Option.bind_some,a,b];rw [Yx (o':=some _) (by rw [Option.bind_some,u];rfl),if_pos rfl,Vo (o':=some _) (by rw [Option.bind_some,v];rfl),if_pos ⟨o,k⟩,QD (o':=some _) (by rw [Option.bind_some,w];rfl),if_pos d,Uh (o':=some _) (by rw [Option.bind_some,x];rfl)];rw [UX (o':=some (List.replicate z false)) (E:=E) (by rw [Option.bind_some];exact y)];unfold II;rw [if_pos ⟨ZeM z r,l⟩]
theorem Zfq {S:jy} {a h z D E F G H I r key J A:jt} {p v K M N O P t w q m:Bool} {b alg l i c d n:Int} {L:List BK} (W:CQ S=some a.data.toList)
  (R:(Zcp a false).bind (DU 2)=(Zcp z p).map (Prod.mk h.data.toList)) (X:(Zcp z p).bind (A9 8)=(Zcp D v).map (Prod.mk b.toNat)) (Y:(Zcp D v).bind (A9 8)=(Zcp E K).map (Prod.mk alg.toNat)) (Z:(Zcp E K).bind (A9 32)=(Zcp F M).map (Prod.mk l.toNat)) (e5:(Zcp F M).bind (A9 16)=(Zcp G N).map (Prod.mk i.toNat)) (e6:(Zcp G N).bind (A9 8)=(Zcp H O).map (Prod.mk c.toNat)) (e7:(Zcp H O).bind (A9 8)=(Zcp I P).map (Prod.mk d.toNat)) (e8:(Zcp I P).bind (DU 16)=(Zcp r t).map (Prod.mk key.data.toList))
  (z1:0<=alg) (z2:0<=i) (z3:0<=c) (z4:0<=d) (T:ZcX r t L m J w) (e9:(Zcp J w).bind (A9 16)=(Zcp A q).map (Prod.mk n.toNat)):
  (h.data.toList=[67,72]/\(1<=b.toNat/\b.toNat<=2)/\Ac.TOK ⟨alg,i,c,d,key,0⟩/\m=true->Bj S=Lp b.toNat l.toNat ⟨alg,i,c,d,key,0⟩ L n.toNat (Zcp A q))/\(¬(h.data.toList=[67,72]/\(1<=b.toNat/\b.toNat<=2)/\Ac.TOK ⟨alg,i,c,d,key,0⟩/\m=true)->Bj S=none):=by
 have U:(Zcp z p).bind Im=(Zcp r t).map (Prod.mk (b.toNat,l.toNat,(⟨alg,i,c,d,key,0⟩:Ac))):=by
  have hk:=Bw e8 (Q:=fun k:List UInt8=>DT (b.toNat,l.toNat,(⟨(alg.toNat:Int),(i.toNat:Int),(c.toNat:Int),(d.toNat:Int),Ai k,0⟩:Ac))) (GK _);have:=Bw X (Bw Y (Bw Z (Bw e5 (Bw e6 (Bw e7 hk (Q:=fun o:Nat=>Bo (DU 16) fun k:List UInt8=>DT (b.toNat,l.toNat,(⟨(alg.toNat:Int),(i.toNat:Int),(c.toNat:Int),(o:Int),Ai k,0⟩:Ac)))) (Q:=fun pt:Nat=>Bo (A9 8) fun o:Nat=>Bo (DU 16) fun k:List UInt8=>DT (b.toNat,l.toNat,(⟨(alg.toNat:Int),(i.toNat:Int),(pt:Int),(o:Int),Ai k,0⟩:Ac)))) (Q:=fun s:Nat=>Bo (A9 8) fun pt:Nat=>Bo (A9 8) fun o:Nat=>Bo (DU 16) fun k:List UInt8=>DT (b.toNat,l.toNat,(⟨(alg.toNat:Int),(s:Int),(pt:Int),(o:Int),Ai k,0⟩:Ac)))) (Q:=fun g:Nat=>Bo (A9 16) fun s:Nat=>Bo (A9 8) fun pt:Nat=>Bo (A9 8) fun o:Nat=>Bo (DU 16) fun k:List UInt8=>DT (b.toNat,g,(⟨(alg.toNat:Int),(s:Int),(pt:Int),(o:Int),Ai k,0⟩:Ac)))) (Q:=fun a:Nat=>Bo (A9 32) fun g:Nat=>Bo (A9 16) fun s:Nat=>Bo (A9 8) fun pt:Nat=>Bo (A9 8) fun o:Nat=>Bo (DU 16) fun k:List UInt8=>DT (b.toNat,g,(⟨(a:Int),(s:Int),(pt:Int),(o:Int),Ai k,0⟩:Ac)))) (Q:=fun f:Nat=>Bo (A9 8) fun a:Nat=>Bo (A9 32) fun g:Nat=>Bo (A9 16) fun s:Nat=>Bo (A9 8) fun pt:Nat=>Bo (A9 8) fun o:Nat=>Bo (DU 16) fun k:List UInt8=>DT (f,g,(⟨(a:Int),(s:Int),(pt:Int),(o:Int),Ai k,0⟩:Ac)));rw [Zbd,Int.toNat_of_nonneg z1,Int.toNat_of_nonneg z2,Int.toNat_of_nonneg z3,Int.toNat_of_nonneg z4] at this;exact this
 have V:Bj S=Kf (Zcp a false):=by
  unfold Bj;rw [W];rfl
 have hB:m=true->KO b.toNat l.toNat ⟨alg,i,c,d,key,0⟩ (Zcp r t)=Lp b.toNat l.toNat ⟨alg,i,c,d,key,0⟩ L n.toNat (Zcp A q):=fun e=>by
  obtain ⟨p1,p2,p3⟩:=T.1 e;rw [QD p3,if_pos p2,Uh e9]
 have B:m=false->KO b.toNat l.toNat ⟨alg,i,c,d,key,0⟩ (Zcp r t)=none:=fun e=>by
  have C:=T.2 e;unfold KO Eg;cases hb:(Zcp r t).bind Ie with
  |none=>rfl
  |some y=>
   have:=C y.1 y.2 hb;exact if_neg this
 constructor
 .rintro ⟨x,u,c3,c4⟩;rw [V,Yx R,if_pos x,Vo U,if_pos ⟨u,c3⟩,hB c4]
 .intro C;rw [V,Yx R];by_cases x:h.data.toList=[67,72]
  .rw [if_pos x,Vo U];by_cases u:(1<=b.toNat/\b.toNat<=2)/\Ac.TOK ⟨alg,i,c,d,key,0⟩
   .rw [if_pos u];cases m
    .exact B rfl
    .exact absurd ⟨x,u.1,u.2,rfl⟩ C
   .rw [if_neg u]
  .rw [if_neg x]
def ZcY (f g:Nat) (c:Ac) (L:List BK) (n:Nat) (o:Option (List Bool)) (E:List EN) (a:Bool):Prop:=
 (a=true->(∃b,Lp f g c L n o=II f g c L (E.map (Zai L)) b)/\∀e∈E.map (Zai L),0<=e.1/\e.1<2 ^ CO c.alg)/\(a=false->Lp f g c L n o=none)
theorem Zdu {f g:Nat} {c:Ac} {L:List BK} {n:Nat} {o:Option (List Bool)} (h:∀E r,o.bind (BY (FB (CO c.alg) (CX f c.alg L.length)) n)=some (E,r)->∃e∈E,(L.length:Int)<=e.2):Lp f g c L n o=none:=by
 unfold Lp Eg;cases a:o.bind (BY (FB (CO c.alg) (CX f c.alg L.length)) n) with
 |none=>rfl
 |some y=>
  obtain ⟨e,b,i⟩:=h y.1 y.2 a;refine if_neg ?_;rintro ⟨-, -, -,d, -⟩;obtain ⟨j,k,l, -⟩:=d e b;omega
theorem ZdD {wp wo n:Nat} {X Y:jz} {E:List EI} (h:BY (FB wp wo) n X=some (E,Y)):∀e∈E,0<=e.1/\e.1<2 ^ wp:=by
 refine (NV (Q:=fun e:EI=>0<=e.1/\e.1<2 ^ wp) (fun X a Y h=>?_) n X E Y h).2;obtain ⟨x,y,rfl,hx, -, -⟩:=OL h;refine ⟨jv,?_⟩;have:((x:Nat):Int)<((2 ^ wp:Nat):Int):=jo
 simpa using this
theorem ZcG.res {g:Nat} {c:Ac} {L:List BK} {n:Nat} {s i:jt} {b d pb:Bool} {E:List EN} (h:ZcG s false (if pb then 64 else 0) (if pb then 8 else 16) n L E d i b) (a:pb=Fq c.alg):ZcY 1 g c L n (Zcp s false) E d:=by
 have k:(if pb then 64 else 0)=CO c.alg:=by rw [a];rfl
 have l:(if pb then 8 else 16)=CX (1:Nat) c.alg L.length:=by rw [a];rfl
 rw [k,l] at h;refine ⟨fun e=>?_,fun e=>Zdu (h.2 e)⟩;obtain ⟨m,o,f⟩:=h.1 e;refine ⟨⟨_,UX f⟩,?_⟩;subst m;exact ZdD f
theorem ZcA.res {g:Nat} {c:Ac} {L:List BK} {n:Nat} {s:jt} {b pb:Bool} {E:List EN} (h:ZcA (Az s.data.toList) (if pb then 64 else 0) (Gf L.length) n L E b) (a:pb=Fq c.alg):ZcY 2 g c L n (Zcp s false) E b:=by
 have f:(if pb then 64 else 0)=CO c.alg:=by rw [a];rfl
 have i:Gf L.length=CX (2:Nat) c.alg L.length:=rfl;rw [f,i] at h;refine ⟨fun e=>?_,fun e=>Zdu (h.2 e)⟩;obtain ⟨k,d⟩:=h.1 e;refine ⟨⟨some _,UX (o:=Zcp s false) (o':=some _) d⟩,ZdD d⟩
theorem ZfC {S:jy} {f g:Nat} {c:Ac} {a:Int} {L:List BK} {E:List EN} {d:Option (List Bool)} (s:g=a.toNat) (i:Bj S=II f g c L (E.map (Zai L)) d) (k:AH L) (l:∀x∈E,∃b∈L,b.1=x.1) (m:∀x∈E,Af x.2.1/\Af x.2.2) (n:c.TOK) (o:0<=a) (p:¬Zcw {c with formats:=3} a L E):Bj S=none:=by
 rw [i];unfold II;rw [if_neg];rintro ⟨-,q,r⟩;refine p ((Zdb k l m).2 ⟨(Ac.ok_iff _).2 ⟨n,jv,jv⟩,⟨jo,jo⟩,r⟩)
theorem Zeo {S:jy} {f g:Nat} {c:Ac} {L:List BK} {E:List EI} {b:Option (List Bool)} (a:Bj S=II f g c L E b) (d:BJ f g c L E≠S):Bj S=none:=by
 cases h:Bj S with
 |none=>rfl
 |some r=>
  rw [h] at a;unfold II at a;split at a
  .injection a with a
   subst a;exact absurd (Ze1 h).symm d
  .cases a
theorem ZfK {f g:Nat} {c:Ac} {d:Int} {L:List BK} {E:List EN} (u:g=d.toNat) (m:1<=f/\f<=2) (i:AH L) (n:∀x∈E,∃b∈L,b.1=x.1) (o:∀x∈E,Af x.2.1/\Af x.2.2) (v:E.length<=65535) (p:∀e∈E.map (Zai L),0<=e.1/\e.1<2 ^ CO c.alg) (q:Zcw c d L E):Bj (BJ f g c L (E.map (Zai L)))=some (f,g,{c with formats:=0},L,E.map (Zai L)):=by
 obtain ⟨r,w,k⟩:=(Zdb i n o).1 q;refine ZfJ m ((Ac.ok_iff _).1 r).1 i (fun e l=>?_) (by rw [je];omega) ⟨⟨jo,jo⟩,k⟩;obtain ⟨s,a⟩:=p e l;obtain ⟨j,y,z, -⟩:=k.2.1 e l;refine ⟨s,?_,fun t=>?_,jo,jo⟩
 .unfold CO at a;split at a
  .simpa using a
  .have:e.1<1:=by simpa using a
   omega
 .unfold CO at a;rw [t] at a;have:e.1<1:=by simpa using a
  omega
end Go.Proofs.YtpapdkhjdelfcaaGreat
