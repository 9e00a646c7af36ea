import Derived.Test.YtpapdkhjdelfcaaGreatMAU
namespace Go.Proofs.YtpapdkhjdelfcaaGreat
open Go.RowKit
set_option maxRecDepth 100000
set_option maxHeartbeats 4000000
theorem Nl:∀(n:Nat) (s r:List Int),(CI n s r).length=s.length
 |0,s,r=>by simp [CI]
 |n+1,s,r=>by
  rw [CI];split
  .rfl
  .rw [Nl n];simp
theorem Wr {W:List (Int×Int)} {S:List Int} {i m:Nat} (a:i<m) (h:∀x∈S, -1<=x/\x<=(m:Int)):∀x∈FP W S i, -1<=x/\x<=(m:Int):=by
 intro x hx;unfold FP at hx;split at hx
 .rcases List.mem_or_eq_of_mem_set hx with hx|hx
  .exact h x hx
  .subst hx;omega
 .exact h x hx
theorem KW {W:List (Int×Int)} {sh:List Int} {r m:Nat} {S:List Int} (h:∀x∈S, -1<=x/\x<=(m:Int)):∀n,n<=m->∀x∈Bu W sh r S n, -1<=x/\x<=(m:Int)
 |0,_=>by simpa [Bu] using h
 |n+1,hn=>by
  rw [Bu];split
  .exact KW h n jo
  .exact Wr jo (KW h n jo)
theorem PD {W:List (Int×Int)} {sh:List Int} {S:List Int} (h:∀x∈S, -1<=x/\x<=(sh.length:Int)):∀r,∀x∈CD W sh S r, -1<=x/\x<=(sh.length:Int)
 |0=>by simpa [CD] using h
 |r+1=>by
  rw [CD];exact KW (PD h r) sh.length (jH _)
theorem PZ {key:jt} {s i:Nat} {id:jt} {m:Int×Int} {M:Nat} (a:i<=M) (h: -1<=m.1/\m.1<=(M:Int)):∀k, -1<=(A6 key s i id m k).1/\(A6 key s i id m k).1<=(M:Int)
 |0=>h
 |k+1=>by
  rw [A6];have:=PZ (key:=key) (s:=s) (id:=id) a h k;split
  .exact ⟨by show -1<=(i:Int);omega,by show (i:Int)<=_;omega⟩
  .exact this
theorem Pv {key:jt} {s:Nat} {B:List BK}:∀n,n<=B.length-> -1<=(AV key s B n).1/\(AV key s B n).1<=(B.length:Int)
 |0,_=>by simp [AV]
 |n+1,hn=>by
  rw [AV];have:=Pv (key:=key) (s:=s) (B:=B) n jo;split
  .exact PZ jo this _
  .exact this
theorem KX {key:jt} {letter:UInt8} {each:Int} {B:List BK}:∀n,n<=B.length->∀e∈AW key letter each B n,(0<=e.1/\e.1<18446744073709551616)/\ -1<=e.2/\e.2<=(B.length:Int)
 |0,_=>by simp [AW]
 |n+1,hn=>by
  intro e a;rw [AW] at a;split at a
  .rename_i b d;rcases jT.1 a with a|a
   .exact KX n jo e a
   .unfold DD at a;obtain ⟨k, -,a⟩:=List.mem_map.1 a;have c:=He key letter [k] b.1;generalize Al key letter [k] b.1=f at *;subst a;exact ⟨c,by show -1<=(n:Int);omega,by show (n:Int)<=_;omega⟩
  .exact KX n jo e a
theorem YE {e x:EI} {l:List EI} (h:x∈Ck e l):x=e\/x∈l:=by
 induction l with
 |nil=>simpa [Ck] using h
 |cons y l ih=>
  rw [Ck] at h;split at h
  .rcases ja.1 h with h|h
   .exact Or.inl h
   .exact Or.inr h
  .rcases ja.1 h with h|h
   .exact Or.inr (by simp [h])
   .rcases ih h with h|h
    .exact Or.inl h
    .exact Or.inr (jW _ h)
theorem Zdm {L:List EI}:∀n,∀x∈BN L n,x∈L
 |0=>by simp [BN]
 |n+1=>by
  intro x hx;rw [BN] at hx;split at hx
  .rename_i e a;rcases YE hx with hx|hx
   .rw [hx];exact List.mem_of_getElem? a
   .exact Zdm n x hx
  .exact Zdm n x hx
theorem NE {key:jt} {letter:UInt8} {each:Int} {B:List BK}:∀e∈Dk key letter each B,(0<=e.1/\e.1<18446744073709551616)/\ -1<=e.2/\e.2<=(B.length:Int):=fun e a=>KX B.length (jH _) e (Zdm _ e a)
theorem Su (M:Int) (B:List BK):(CJ M B).length<=B.length:=by
 unfold CJ;split
 .simp
 .rw [Nl];simp [Bi]
theorem Wc (c:Ac) (B:List BK):∀e∈An c B,(0<=e.1/\e.1<18446744073709551616)/\ -1<=e.2/\e.2<=(B.length:Int):=by
 intro e a;rw [An] at a;split at a
 .cases a
 split at a
 .obtain ⟨o,b,rfl⟩:=List.mem_map.1 a;have d:=Su c.slots B;have f:=PD (W:=B.map (Cr c)) (sh:=CJ c.slots B) (S:=List.replicate c.slots.toNat (-1)) (fun x hx=>by have:=List.eq_of_mem_replicate hx;omega) c.slots.toNat o b;exact ⟨⟨js,js⟩,jv,jv⟩
 split at a
 .exact NE e a
 split at a
 .obtain ⟨s,g,rfl⟩:=List.mem_map.1 a;have:=Pv (key:=c.key) (s:=s) (B:=B) B.length (jH _);exact ⟨⟨js,js⟩,this⟩
 split at a
 .exact NE e a
 .cases a
theorem PI (c:Ac) {B:List BK} (a:AL B):∀e∈An c B,Fp e:=fun e b=>by
 have h:=Wc c B e b;have:=a.1;exact ⟨h.1.1,h.1.2,jo,jo⟩
def Ev (T:List TP):Prop:=T.Pairwise fun a b=>a.1<b.1
theorem Nr {T:List TP} {n:Nat}:∀m,m<=T.length->∀j (a:j<T.length),CA T n m<=j->j<m->n<=T[j].1
 |0,_,j,a,h1,h2=>by omega
 |m+1,hm,j,a,h1,h2=>by
  rw [CA] at h1;have b:m<T.length:=jo
  rw [jG b] at h1;simp only at h1;split at h1
  .rename_i c;by_cases d:j=m
   .subst d;exact c
   .exact Nr m jo j a h1 jo
  .omega
theorem Pe {T:List TP} {n:Nat}:∀m,m<=T.length->∀k (a:k<T.length),CA T n m=k+1->T[k].1<n
 |0,_,k,a,h=>by simp [CA] at h
 |m+1,hm,k,a,h=>by
  rw [CA] at h;have b:m<T.length:=jo
  rw [jG b] at h;simp only at h;split at h
  .exact Pe m jo k a h
  .rename_i c;have:k=m:=jo
   subst this;omega
theorem Ev.take_lt {T:List TP} (h:Ev T) {i n:Nat} (f:i<=T.length) (a:∀k (g:k<T.length),i=k+1->T[k].1<n):∀x∈T.take i,x.1<n:=fun x hx=>by
 obtain ⟨j,c,rfl⟩:=List.getElem_of_mem hx;rw [jk] at c;rw [List.getElem_take];obtain ⟨k,rfl⟩:∃k,i=k+1:=⟨i - 1,jo⟩;have d:=a k jo rfl;by_cases b:j=k
 .subst b;exact d
 .have:=List.pairwise_iff_getElem.1 h j k jo jo jo;omega
theorem Ev.lay {T:List TP} (h:Ev T) (p:TP):Ev (Dm T p):=by
 have l:=Mo T p.1 T.length;have m:=Nr (T:=T) (n:=p.1) T.length (jH _);have o:=Pe (T:=T) (n:=p.1) T.length (jH _);unfold Dm;generalize CA T p.1 T.length=i at *;split
 .rename_i f
  have d:i<T.length:=by
   rcases Nat.lt_or_ge i T.length with h|h
   .exact h
   .rw [List.getElem?_eq_none h] at f;cases f
  have u:T[i].1=p.1:=by simpa [List.getElem?_eq_getElem d] using f
  refine List.pairwise_iff_getElem.2 (fun a b g c q=>?_);rw [List.length_set] at g c;have v:=List.pairwise_iff_getElem.1 h a b g c q;rw [List.getElem_set,List.getElem_set];split
  .rename_i e;subst e;split
   .omega
   .omega
  .split
   .rename_i e;subst e;omega
   .exact v
 .rename_i f;have s:=h.take_lt l (fun k w e=>o k w e)
  have t:∀x∈T.drop i,p.1<x.1:=fun x hx=>by
   obtain ⟨j,y,rfl⟩:=List.getElem_of_mem hx;rw [jh] at y;rw [List.getElem_drop];have d:i<T.length:=jo
   have z:=m i d (jH _) d;have A:T[i].1≠p.1:=fun e=>f (by simp [List.getElem?_eq_getElem d,e])
   by_cases r:j=0
   .subst r;have e:T[i+0]=T[i]:=rfl;rw [e];omega
   .have:=List.pairwise_iff_getElem.1 h i (i+j) d jo jo;omega
  refine List.pairwise_append.2 ⟨List.Pairwise.sublist (List.take_sublist _ _) h,List.pairwise_cons.2 ⟨t,List.Pairwise.sublist (List.drop_sublist _ _) h⟩,fun a g b c=>?_⟩;rcases ja.1 c with c|c
  .rw [c];exact s a g
  .have:=s a g;have:=t b c;omega
theorem Ev.ge {T:List TP} (h:Ev T):∀j (a:j<T.length),j<=T[j].1
 |0,_=>by omega
 |j+1,a=>by
  have b:=Ev.ge h j jo;have c:=List.pairwise_iff_getElem.1 h j (j+1) jo a jo;omega
theorem Ev.len {T:List TP} {a:Nat} (h:Ev T) (b:∀x∈T,x.1<a):T.length<=a:=by
 rcases Nat.eq_zero_or_pos T.length with c|c
 .omega
 .have d:=h.ge (T.length - 1) jo;have f:=b _ (jJ (by omega:T.length - 1<T.length));omega
structure AF where
 fm:Nat
 g:Nat
 c:Ac
 B:List BK
 E:List EI
 cg:Nat
 cf:Nat
 cp:Nat
 T:List TP
 nf:Bool
structure AF.OK (p:AF):Prop where
 fm:1<=p.fm/\p.fm<=3
 g:p.g<=1073741824
 held:p.g≠0->∃f,IK f p.g p.c p.B p.E
 len:p.E.length<=255
 cg:p.cg<4294967296
 cf:p.cf<256
 cp:p.cp<65536
 ris:Ev p.T
 T:∀x∈p.T,x.1<p.cp/\x.2.length<=48
theorem AF.OK.tlen {p:AF} (h:p.OK):p.T.length<=65535:=by
 have:=h.ris.len (fun x hx=>(h.T x hx).1);have:=h.cp;omega
theorem AF.OK.tok {p:AF} (h:p.OK):p.g≠0->p.c.TOK:=fun a=>by
 obtain ⟨f,b⟩:=h.held a;exact b.tok
def Br (M:jr) (q:Nat) (p:AF) (R:jr) (w:jj):Prop:=q∈M/\(∀k∈R,k∈M)/\∃b d a,Ae q 208 (BD p.fm p.g p.c b d p.cg p.cf p.cp a p.nf) w/\Am (Ay M w) b p.B/\AR (Ay M w) d p.E/\AN w a p.T/\gl a=R
theorem AN.but {M:jr} {w w':jj} {v:ju} {T:List TP} (h:AN w v T) (k:Ab M w w') (f:∀g∈gl v,g∉M):AN w' v T:=by
 refine ⟨h.1,?_⟩;rcases h.2 with a|⟨g,cap,b,a,i,c,l⟩
 .exact Or.inl a
 .refine Or.inr ⟨g,cap,b,a,i,?_,l⟩;have m:g∈gl v:=by rw [a];simp [gl,Value.ownBlock]
  have d:g<w.heap.size:=by
   rcases Nat.lt_or_ge g w.heap.size with h|h
   .exact h
   .rw [Array.getElem?_eq_none h] at c;cases c
  exact (k.block g d (f g m)).trans c
theorem Br.but {M M':jr} {q:Nat} {p:AF} {R:jr} {w w':jj} (h:Br M q p R w) (k:Ab M' w w') (d:q∉M') (f:∀j∈R,j∉M') (i:∀j∈M',j∈M\/w.heap.size<=j):Br M q p R w':=by
 obtain ⟨l,m,n,o,r,s,t,u,v,b⟩:=h;have c:Aa (Ay M w) (Ay M w'):=k.mono i;exact ⟨l,m,n,o,r,s.but k d,t.later c,u.later c,v.but k (fun g a=>f g (by rw [<-b];exact a)),b⟩
theorem Br.later {M:jr} {q:Nat} {p:AF} {R:jr} {w w':jj} (h:Br M q p R w) (k:Aa w w'):Br M q p R w':=h.but (M':=[]) (Ab.of_bel k) js js js
theorem Br.grow {M:jr} {q:Nat} {p:AF} {R:jr} {w:jj} (h:Br M q p R w) (N:jr) (c:∀k∈N,w.heap.size<=k):Br (N++M) q p R w:=by
 obtain ⟨d,f,g,i,l,m,a,b,n,o⟩:=h;rw [<-MT N M w c] at a b;exact ⟨jU _ d,fun k r=>jU _ (f k r),g,i,l,m,a,b,n,o⟩
theorem Rh {base:Nat} {M:jr} {w:jj} {v:ju} {B:List BK} (h:AJ base w v B) (b:∀k∈M,k<base):Am (Ay M w) v B:=by
 rcases AJ.pool h with c|⟨g,cap,a,d,f,i⟩
 .exact Or.inl c
 .refine Or.inr ⟨g,cap,a,d,by rw [Eo];exact f,fun j u l=>Bn.2 ⟨i j u l,fun m=>?_⟩⟩;have n:=(World.ownsRow.lt h g (by rw [a];rfl)).1;have:=b g m;omega
theorem Yn {base:Nat} {M:jr} {w:jj} {v:ju} {E:List EI} (h:AS base w v E) (b:∀k∈M,k<base):AR (Ay M w) v E:=by
 rcases AS.ents h with c|⟨g,cap,a,d,f,i⟩
 .exact Or.inl c
 .refine Or.inr ⟨g,cap,a,d,by rw [Eo];exact f,fun j u l=>Bn.2 ⟨i j u l,fun m=>?_⟩⟩;have n:=(World.ownsRow.lt h g (by rw [a];rfl)).1;have:=b g m;omega
def DX (fm:Nat):AF:=⟨fm,0,LJ,[],[],0,0,0,[],false⟩
theorem Oc {fm:Nat} (h:1<=fm/\fm<=3):(DX fm).OK:=⟨h,by simp [DX],fun h=>absurd rfl h,by simp [DX],by simp [DX],by simp [DX],by simp [DX],List.Pairwise.nil,fun x hx=>by cases hx⟩
theorem Br.ofNew {M:jr} {q fm:Nat} {w:jj} (h:Ae q 208 (FW fm) w) (a:q∈M):Br M q (DX fm) [] w:=
 ⟨a,fun k b=>(by cases b),.slice none 0 0,.slice none 0 0,.slice none 0 0,h,Or.inl ⟨rfl,rfl,rfl⟩,Or.inl ⟨rfl,rfl,rfl⟩,World.ownsRow_nil _ _ _ _,rfl⟩
def AF.clear (p:AF):AF:={p with cg:=0,cf:=0,cp:=0,T:=[],nf:=false}
def Zgf (fm g cg cf b:Nat) (T:List TP) (a:Bl):Decidable (Ea fm g cg cf b T a):=inferInstanceAs (Decidable (IQ fm g cg a=true/\a.2.2.1=(AU cg cf b T a).2.1/\a.2.2.2.1=(AU cg cf b T a).2.2.1))
def DO (p:AF) (a:Bl):AF:=if a.1≠1 then {p with nf:=a.1==2} else
 haveI:=Zgf p.fm p.g p.cg p.cf p.cp p.T a;if Ea p.fm p.g p.cg p.cf p.cp p.T a then
  if (newT p.cg p.cf p.cp p.T a).length=(AU p.cg p.cf p.cp p.T a).2.2.1 then
   match Bj (Cg (newT p.cg p.cf p.cp p.T a)) with
   |some (f,g2,c2,B2,E2)=>if f=(AU p.cg p.cf p.cp p.T a).2.1/\g2=(AU p.cg p.cf p.cp p.T a).1 then {p.clear with g:=g2,c:=c2,B:=B2,E:=E2} else p.clear
   |none=>p.clear
  else {p with cg:=(AU p.cg p.cf p.cp p.T a).1,cf:=(AU p.cg p.cf p.cp p.T a).2.1,cp:=(AU p.cg p.cf p.cp p.T a).2.2.1,T:=newT p.cg p.cf p.cp p.T a,nf:=false}
 else p
structure IJ (a:Bl):Prop where
 ok:EO a
 g:a.2.1<4294967296
 f:a.2.2.1<256
 c:a.2.2.2.1<65536
 n:a.2.2.2.2.1<65536
 b:a.2.2.2.2.2.length<=48
theorem IJ.of {l:jy} {a:Bl} (h:DY l=some a):IJ a:=by
 obtain ⟨b,c,d,f,g,i⟩:=Ox h;exact ⟨b,c,d,f,g,i⟩
theorem AF.OK.clear {p:AF} (h:p.OK):p.clear.OK:=⟨h.fm,h.g,h.held,h.len,by simp [AF.clear],by simp [AF.clear],by simp [AF.clear],List.Pairwise.nil,fun x hx=>by cases hx⟩
theorem Po {p:AF} (h:p.OK) {a:Bl} (b:IJ a):(AU p.cg p.cf p.cp p.T a).1<4294967296/\(AU p.cg p.cf p.cp p.T a).2.1<256/\(AU p.cg p.cf p.cp p.T a).2.2.1<65536/\Ev (AU p.cg p.cf p.cp p.T a).2.2.2/\∀x∈(AU p.cg p.cf p.cp p.T a).2.2.2,x.1<(AU p.cg p.cf p.cp p.T a).2.2.1/\x.2.length<=48:=by
 unfold AU;split
 .exact ⟨b.g,b.f,b.c,List.Pairwise.nil,fun x hx=>by cases hx⟩
 .exact ⟨h.cg,h.cf,h.cp,h.ris,h.T⟩
theorem Zf {p:AF} (h:p.OK) {a:Bl} (d:IJ a) (f:Ea p.fm p.g p.cg p.cf p.cp p.T a):Ev (newT p.cg p.cf p.cp p.T a)/\∀x∈newT p.cg p.cf p.cp p.T a,x.1<(AU p.cg p.cf p.cp p.T a).2.2.1/\x.2.length<=48:=by
 obtain ⟨m,n,o,i,k⟩:=Po h d;refine ⟨i.lay _,fun x hx=>?_⟩;rcases LE hx with hx|hx
 .rw [hx];refine ⟨?_,d.b⟩;have c:=f.1;have l:=f.2.2;rw [<-l];unfold IQ at c;simp only [Bool.and_eq_true,decide_eq_true_eq] at c;exact c.1.2
 .exact k x hx
theorem RR {p:AF} (h:p.OK) {a:Bl} (d:IJ a):(DO p a).OK:=by
 unfold DO;split
 .exact ⟨h.fm,h.g,h.held,h.len,h.cg,h.cf,h.cp,h.ris,h.T⟩
 .split
  .rename_i i;obtain ⟨k,l,m,r,s⟩:=Po h d;obtain ⟨n,o⟩:=Zf h d i;split
   .split
    .rename_i f t u v w q;split
     .have c:=Hp q;have b:=h.clear;exact ⟨b.fm,c.right.1.2,fun _=>⟨f,c⟩,c.len,b.cg,b.cf,b.cp,b.ris,b.T⟩
     .exact h.clear
    .exact h.clear
   .exact ⟨h.fm,h.g,h.held,h.len,k,l,m,n,o⟩
  .exact h
theorem Br.rows {M:jr} {q:Nat} {R:jr} {w w':jj} {a b:ju} {B:List BK} {E:List EI} (g:q∈M) (i:∀k∈R,k∈M) (c:Am (Ay M w) a B) (d:AR (Ay M w) b E) (k:Ab (q::R) w w') (N:jr) (l:∀k∈N,w.heap.size<=k):Am (Ay (N++M) w') a B/\AR (Ay (N++M) w') b E:=by
 rw [<-MT N M w l] at c d
 have f : Aa (Ay (N ++ M) w) (Ay (N ++ M) w') := k.mono (fun j m => Or.inl (jU _ (by
   rcases ja.1 m with e | e
   . rw [e]; exact g
   . exact i j e)))
 exact ⟨c.later f,d.later f⟩
def Ju (p:AF) (l:jy):AF:=match DY l with
 |none=>p
 |some a=>DO p a
theorem X9 {p:AF} (h:p.OK) (l:jy):(Ju p l).OK:=by
 unfold Ju;split
 .exact h
 .rename_i a b;exact RR h (IJ.of b)
def Hc (M:jr) (q:Nat) (R:jr) (b:AF) (w w':jj):Prop:=Ab (q::R) w w'/\∃N a,(∀k∈N,w.heap.size<=k)/\(∀k∈a,k∈R\/k∈N)/\Br (N++M) q b a w'
theorem Hc.bel {M:jr} {q:Nat} {R:jr} {p:AF} {w w':jj} (h:Br M q p R w) (k:Aa w w'):Hc M q R p w w':=⟨Ab.of_bel k,[],R,js,fun k a=>Or.inl a,by simpa using h.later k⟩
theorem SY {p:AF} {a:Bl} (b:a.1=1) (c:¬Ea p.fm p.g p.cg p.cf p.cp p.T a):DO p a=p:=by
 unfold DO;rw [if_neg (by rw [b];simp),if_neg c]
theorem Te {p:AF} {a:Bl} (b:a.1=1) (c:Ea p.fm p.g p.cg p.cf p.cp p.T a) (d:(newT p.cg p.cf p.cp p.T a).length≠(AU p.cg p.cf p.cp p.T a).2.2.1):DO p a={p with cg:=(AU p.cg p.cf p.cp p.T a).1,cf:=(AU p.cg p.cf p.cp p.T a).2.1,cp:=(AU p.cg p.cf p.cp p.T a).2.2.1,T:=newT p.cg p.cf p.cp p.T a,nf:=false}:=by
 unfold DO;rw [if_neg (by rw [b];simp),if_pos c,if_neg d]
theorem QX {p:AF} {a:Bl} {b:Ac} {d:List BK} {f:List EI} (i:a.1=1) (k:Ea p.fm p.g p.cg p.cf p.cp p.T a) (l:(newT p.cg p.cf p.cp p.T a).length=(AU p.cg p.cf p.cp p.T a).2.2.1) (m:Bj (Cg (newT p.cg p.cf p.cp p.T a))=some ((AU p.cg p.cf p.cp p.T a).2.1,(AU p.cg p.cf p.cp p.T a).1,b,d,f)):DO p a={p.clear with g:=(AU p.cg p.cf p.cp p.T a).1,c:=b,B:=d,E:=f}:=by
 unfold DO;rw [if_neg (by rw [i];simp),if_pos k,if_pos l,m];simp
theorem Wn {p:AF} {a:Bl} (k:a.1=1) (l:Ea p.fm p.g p.cg p.cf p.cp p.T a) (m:(newT p.cg p.cf p.cp p.T a).length=(AU p.cg p.cf p.cp p.T a).2.2.1) (n:∀b c d,Bj (Cg (newT p.cg p.cf p.cp p.T a))≠some ((AU p.cg p.cf p.cp p.T a).2.1,(AU p.cg p.cf p.cp p.T a).1,b,c,d)):DO p a=p.clear:=by
 unfold DO;rw [if_neg (by rw [k];simp),if_pos l,if_pos m];cases i:Bj (Cg (newT p.cg p.cf p.cp p.T a)) with
 |none=>rfl
 |some y=>
  obtain ⟨f,r,b,c,d⟩:=y;simp only;rw [if_neg];rintro ⟨o,q⟩;rw [o,q] at i;exact n b c d i
theorem Qk {M:jr} {q:Nat} {p:AF} {n o A:ju} {R:jr} {a:Bl} {w w':jj} (f:q∈M) (r:∀k∈R,k∈M) (O:∀k∈M,k<w.heap.size) (C:gl A=R) (D:Am (Ay M w) n p.B) (F:AR (Ay M w) o p.E) (b:a.1=1)
  (h:KR q p.fm p.g p.c n o p.cg p.cf p.cp A p.nf p.T a w (.returned (.tuple #[])) w'):Hc M q R (DO p a) w w':=by
 obtain ⟨-,s,t⟩:=h;rw [C] at s;refine ⟨s,?_⟩;rcases t with ⟨l,i,G⟩|⟨l,d,m,i,G,u⟩|⟨l,d,v⟩
 .rw [SY b l];obtain ⟨x,y⟩:=Br.rows f r D F s [] js;exact ⟨[],R,js,fun k b=>Or.inl b,f,fun k b=>r k b,n,o,A,i,x,y,G,C⟩
 .rw [Te b l d];obtain ⟨x,y⟩:=Br.rows f r D F s ((gl m).filter fun k=>decide (w.heap.size<=k)) (fun k b=>by simpa using (List.mem_filter.1 b).2)
  have z:∀k∈gl m,k∈R\/k∈(gl m).filter fun k=>decide (w.heap.size<=k):=fun k b=>by
   have H:m.ownBlock=some k:=by unfold gl at b;exact Option.mem_toList.1 b
   rcases u k H with h|h
   .exact Or.inl (by rw [<-C];exact h)
   .exact Or.inr (List.mem_filter.2 ⟨b,by simpa using h⟩)
  refine ⟨_,gl m,fun k b=>by simpa using (List.mem_filter.1 b).2,z,jU _ f,fun k b=>?_,n,o,m,i,x,y,G,rfl⟩;rcases z k b with h|h
  .exact jU _ (r k h)
  .exact jg _ h
 .rcases v with ⟨P,Q,S,I,J,K,i,L,N⟩|⟨K,i⟩
  .rw [QX b l d K];exact ⟨[],[],js,fun k b=>(by cases b),f,fun k b=>(by cases b),I,J,.slice none 0 0,i,Rh L O,Yn N O,World.ownsRow_nil _ _ _ _,rfl⟩
  .rw [Wn b l d K];obtain ⟨x,y⟩:=Br.rows f r D F s [] js;exact ⟨[],[],js,fun k b=>(by cases b),f,fun k b=>(by cases b),n,o,.slice none 0 0,i,x,y,World.ownsRow_nil _ _ _ _,rfl⟩
theorem Um {M:jr} {q:Nat} {p:AF} {l m n:ju} {R:jr} {a:Bl} {w w':jj} (o:q∈M) (r:∀k∈R,k∈M) (y:∀k∈M,k<w.heap.size) (s:gl n=R) (v:Am (Ay M w) l p.B) (x:AR (Ay M w) m p.E)
  (h:My q p.fm p.g p.c l m p.cg p.cf p.cp n p.nf p.T a w (.returned (.tuple #[])) w'):Hc M q R (DO p a) w w':=by
 obtain ⟨-,t,d⟩:=h;rw [s] at t;rcases d with ⟨b,z,A⟩|⟨b,C,i,D⟩
 .have u:DO p a={p with nf:=a.1==2}:=by unfold DO;rw [if_pos b]
  rw [u];obtain ⟨F,G⟩:=Br.rows o r v x t [] js;exact ⟨t,[],R,js,fun k b=>Or.inl b,o,fun k b=>r k b,l,m,n,z,F,G,A,s⟩
 .have f:Aa (Ay M w) (Ay M C):=(Ab.of_bel (M:=M) i);obtain ⟨H,N,I,J,K,L⟩:=Qk o r (fun k b=>jN (y k b) i.size) s (v.later f) (x.later f) b D;exact ⟨(Ab.of_bel i).trans H,N,I,fun k b=>jX i.size (J k b),K,L⟩
def Hx (s:Nat) (d:Int) (q:Nat) (w:jj):Prop:=Calls Tryz.prog 131 #[.pointer (some ⟨s,0,none⟩),.int .i64 d] w (RQ w (.pointer (some ⟨q,0,none⟩)))
def Oj (s:Nat) (d:Int) (w:jj):Prop:=Calls Tryz.prog 131 #[.pointer (some ⟨s,0,none⟩),.int .i64 d] w (RQ w (.pointer none))
theorem Vv {s:Nat} {d:Int} {b:ju} {a:jr} {w:jj} (f:w.cell? ⟨s,9,none⟩=some b) (g:Eu w b a):(∀n (h:n<a.length),d=(n:Int)->Hx s d a[n] w)/\((d<0\/(a.length:Int)<=d)->Oj s d w):=by
 have H:=Wj s d b a w f g;refine ⟨fun n h e=>?_,fun h=>?_⟩
 .subst e
  have:Iz a (n:Int)= .pointer (some ⟨a[n],0,none⟩):=by
   unfold Iz;rw [if_pos jo,Int.toNat_natCast,jG h];rfl
  rw [this] at H;exact H
 .have:Iz a d= .pointer none:=by
   unfold Iz;by_cases c:0<=d
   .rw [if_pos c,List.getElem?_eq_none jo];rfl
   .rw [if_neg c]
  rw [this] at H
  exact H
def PR (M:jr) (q:Nat) (R:jr) (a:AF) (w:jj) (e:Ending) (w':jj):Prop:=e= .returned (.int .i64 0)/\Hc M q R a w w'
theorem T4 {M:jr} {s q:Nat} {d:Int} {p:AF} {R:jr} {t:jt} {w:jj} (o:Hx s d q w) (h:Br M q p R w) (f:p.OK) (r:∀k∈M,k<w.heap.size) (u:t.size<=1099511627776):
  Calls Tryz.prog 79 #[.pointer (some ⟨s,0,none⟩),.int .i64 d,.string t] w (PR M q R (Ju p t.data.toList) w):=by
 have v:=h;obtain ⟨y,z,A,B,C,D,E,F,G,H⟩:=h;refine (WJ s q d t p.fm p.g p.c A B p.cg p.cf p.cp C p.nf p.T w o D G f.tlen (fun x hx=>by have:=(f.T x hx).2;omega) (by have:=f.fm.2;omega) u).mono ?_;rintro e w' ⟨rfl,b⟩;refine ⟨rfl,?_⟩;unfold Ju;cases n:DY t.data.toList with
 |none=>
  rw [n] at b;exact Hc.bel v b
 |some a=>
  rw [n] at b;obtain ⟨I,l,J⟩:=b;have i:Aa (Ay M w) (Ay M I):=Ab.of_bel (M:=M) l;obtain ⟨K,N,L,O,P,Q⟩:=Um y z (fun k m=>jN (r k m) l.size) H (E.later i) (F.later i) J;exact ⟨(Ab.of_bel l).trans K,N,L,fun k m=>jX l.size (O k m),P,Q⟩
theorem RN {M:jr} {s q:Nat} {d:Int} {p:AF} {R:jr} {w:jj} (f:Hx s d q w) (h:Br M q p R w):
  Calls Tryz.prog 81 #[.pointer (some ⟨s,0,none⟩),.int .i64 d] w (PR M q R (DX p.fm) w):=by
 obtain ⟨i,t,l,m,n,o,u,v,x,y⟩:=h;refine (Xc s q d p.fm p.g p.c l m p.cg p.cf p.cp n p.nf w f o).mono ?_;rintro e w' ⟨rfl,r,b⟩;exact ⟨rfl,r.mono (fun k a=>Or.inl (by simp at a;subst a;simp)),[],[],js,fun k a=>(by cases a),by simpa using Br.ofNew b i⟩
theorem Rc {M:jr} {s q:Nat} {d:Int} {p:AF} {R:jr} {w:jj} (b:Hx s d q w) (h:Br M q p R w) (a:p.OK):
  Calls Tryz.prog 77 #[.pointer (some ⟨s,0,none⟩),.int .i64 d] w (Ff w (IS p.g p.fm p.cg p.cf p.T,0)):=by
 obtain ⟨n,o,f,i,k,l,r,t,m,u⟩:=h;exact QY s q d p.fm p.g p.c f i p.cg p.cf p.cp k p.nf p.T w b l m (by have:=a.tlen;omega) (by have:=a.g;omega) (by have:=a.fm.2;omega) (by have:=a.cg;omega) (by have:=a.cf;omega)
theorem QG {M:jr} {s q:Nat} {d:Int} {p:AF} {R:jr} {w:jj} (a:Hx s d q w) (h:Br M q p R w):
  Calls Tryz.prog 82 #[.pointer (some ⟨s,0,none⟩),.int .i64 d] w (F4 w (Ix p.g p.nf)):=by
 obtain ⟨l,m,b,f,i,k,n,o,r,t⟩:=h;exact Td s q d p.fm p.g p.c b f p.cg p.cf p.cp i p.nf w a k
theorem XE {M:jr} {s q:Nat} {d:Int} {k:jt} {p:AF} {R:jr} {w:jj} (b:Hx s d q w) (h:Br M q p R w) (a:p.OK) (f:k.size<=4611686018427386000):
  Calls Tryz.prog 84 #[.pointer (some ⟨s,0,none⟩),.int .i64 d,.string k] w (EH w (IR p.g p.c p.B p.E k)):=by
 obtain ⟨t,u,i,l,m,n,o,r,v,x⟩:=h;exact QU s q d k p.fm p.g p.c i l p.cg p.cf p.cp m p.nf p.B p.E w b n (Ap.unmask o) (Ap.unmask r) (by have:=a.len;omega) a.tok f
theorem MO {M:jr} {base:Nat} {e:TypeId} {a:Nat} {w w':jj} {v:ju} {n:Nat} {i:List Value} (h:w.ownsRow base e a v n i) (k:Ab M w w') (l:∀g∈gl v,g∉M):w'.ownsRow base e a v n i:=by
 refine ⟨h.1,?_⟩;rcases h.2 with b|⟨g,cap,c,b,m,d,o⟩
 .exact Or.inl b
 .refine Or.inr ⟨g,cap,c,b,m,?_,o⟩;have p:g∈gl v:=by rw [b];simp [gl,Value.ownBlock]
  have f:g<w.heap.size:=by
   rcases Nat.lt_or_ge g w.heap.size with h|h
   .exact h
   .rw [Array.getElem?_eq_none h] at d;cases d
  exact (k.block g f (l g p)).trans d
structure AT where
 c:Ac
 B:List BK
 g:Int
 L:List Nat
 ps:List (Nat×AF×List Nat)
def Bh (a:List (Nat×AF×List Nat)):List Nat:=a.flatMap fun y=>y.1::y.2.2
def AT.own (x:AT) (s:Nat):List Nat:=s::(x.L++Bh x.ps)
def AG (M:jr) (s:Nat) (x:AT) (w:jj):Prop:=∃a,Bt a M s x.c x.B x.g w/\Eu w a (x.ps.map fun y=>y.1)/\gl a=x.L/\(∀k∈x.L,k∈M)/\(∀y∈x.ps,Br M y.1 y.2.1 y.2.2 w/\y.2.1.OK)/\(x.own s).Nodup/\x.ps.length<=4
theorem Hy {a:List (Nat×AF×List Nat)} {y:Nat×AF×List Nat} (h:y∈a):y.1∈Bh a/\∀k∈y.2.2,k∈Bh a:=⟨jd.2 ⟨y,h,js⟩,fun k b=>jd.2 ⟨y,h,by simp [b]⟩⟩
theorem AG.but {M M':jr} {s:Nat} {x:AT} {w w':jj} (h:AG M s x w) (k:Ab M' w w') (b:∀j∈M',j∉x.own s) (d:∀j∈M',j∈M\/w.heap.size<=j):AG M s x w':=by
 obtain ⟨n,o,p,f,q,i,r,t⟩:=h;refine ⟨n,o.but k (fun a=>b s a (by simp [AT.own])) d,MO p k (fun g l a=>b g a (by rw [f] at l;simp [AT.own,l])),f,q,fun y c=>⟨?_,(i y c).2⟩,r,t⟩;have m:=Hy c;exact (i y c).1.but k (fun a=>b _ a (by simp [AT.own,m.1])) (fun j u a=>b j a (by simp [AT.own,m.2 j u])) d
theorem AG.later {M:jr} {s:Nat} {x:AT} {w w':jj} (h:AG M s x w) (k:Aa w w'):AG M s x w':=h.but (M':=[]) (Ab.of_bel k) js js
theorem AG.grow {M:jr} {s:Nat} {x:AT} {w:jj} (h:AG M s x w) (N:jr) (a:∀k∈N,w.heap.size<=k):AG (N++M) s x w:=by
 obtain ⟨d,f,g,i,l,b,m,n⟩:=h;exact ⟨d,f.grow N a,g,i,fun k o=>jU _ (l k o),fun y c=>⟨(b y c).1.grow N a,(b y c).2⟩,m,n⟩
theorem AG.dp {M:jr} {s:Nat} {x:AT} {w:jj} (h:AG M s x w) (d:Int):(∀n (a:n<x.ps.length),d=(n:Int)->Hx s d x.ps[n].1 w)/\((d<0\/(x.ps.length:Int)<=d)->Oj s d w):=by
 obtain ⟨g,b,c,i,l,m,o,p⟩:=h;obtain ⟨_,_,_,_,_,hF,_⟩:=b;have:=Vv (s:=s) (d:=d) hF.2.1 c;refine ⟨fun n a e=>?_,fun k=>this.2 (by simpa using k)⟩;have f:=this.1 n (by simpa using a) e;simpa using f
theorem AG.pl {M:jr} {s:Nat} {x:AT} {w:jj} (h:AG M s x w) {n:Nat} (a:n<x.ps.length):Br M x.ps[n].1 x.ps[n].2.1 x.ps[n].2.2 w/\x.ps[n].2.1.OK:=by
 obtain ⟨c,d,f,g,i,b,k,l⟩:=h;exact b _ (jJ a)
theorem Mr {M M':jr} {w:jj} (d:∀j∈M,j∈M') (f:∀j∈M',j∈M\/w.heap.size<=j):Ay M' w=Ay M w:=by
 unfold Ay;congr 1;apply Array.ext
 .simp
 .intro i a b;have g:i<w.heap.size:=by simpa using a
  simp only [Array.getElem_mapIdx];by_cases c:i∈M
  .simp [c,d i c]
  .have:i∉M':=fun e=>(f i e).elim c (fun k=>by omega)
   simp [c,this]
theorem Ap.narrow {M M':jr} {w:jj} {v:ju} {n:Nat} {c:List Value} (h:Ap (Ay M w) v n c) (f:∀j∈M',j∈M):Ap (Ay M' w) v n c:=by
 rcases h with h|⟨g,cap,i,k,d,l⟩
 .exact Or.inl h
 .refine Or.inr ⟨g,cap,i,k,by rw [Eo] at d |-;exact d,fun j u m=>?_⟩;obtain ⟨a,b⟩:=Bn.1 (l j u m);exact Bn.2 ⟨a,fun e=>b (f _ e)⟩
theorem Br.wide {M M':jr} {q:Nat} {p:AF} {R:jr} {w:jj} (h:Br M q p R w) (a:∀j∈M,j∈M') (b:∀j∈M',j∈M\/w.heap.size<=j):Br M' q p R w:=by
 unfold Br at *;rw [Mr a b];exact ⟨a _ h.1,fun k c=>a _ (h.2.1 k c),h.2.2⟩
theorem Br.narrow {M M':jr} {q:Nat} {p:AF} {R:jr} {w:jj} (h:Br M q p R w) (a:∀j∈M',j∈M) (b:q∈M') (c:∀k∈R,k∈M'):Br M' q p R w:=by
 obtain ⟨_,_,d,f,g,i,l,m,n,o⟩:=h;exact ⟨b,c,d,f,g,i,Ap.narrow l a,Ap.narrow m a,n,o⟩
theorem Bt.wide {a:ju} {M M':jr} {q:Nat} {c:Ac} {B:List BK} {g:Int} {w:jj} (h:Bt a M q c B g w) (b:∀j∈M,j∈M') (d:∀j∈M',j∈M\/w.heap.size<=j):Bt a M' q c B g w:=by
 unfold Bt at *;rw [Mr b d];exact ⟨b _ h.1,h.2⟩
theorem Bt.narrow {a:ju} {M M':jr} {q:Nat} {c:Ac} {B:List BK} {g:Int} {w:jj} (h:Bt a M q c B g w) (b:∀j∈M',j∈M) (d:q∈M'):Bt a M' q c B g w:=by
 obtain ⟨_,f,i,k,l,hF,m,n⟩:=h;exact ⟨d,f,i,k,l,hF,Ap.narrow m b,Ap.narrow n b⟩
theorem AG.wide {M M':jr} {s:Nat} {x:AT} {w:jj} (h:AG M s x w) (a:∀j∈M,j∈M') (b:∀j∈M',j∈M\/w.heap.size<=j):AG M' s x w:=by
 obtain ⟨f,g,i,l,m,c,n,o⟩:=h;exact ⟨f,g.wide a b,i,l,fun k p=>a _ (m k p),fun y d=>⟨(c y d).1.wide a b,(c y d).2⟩,n,o⟩
theorem AG.inM {M:jr} {s:Nat} {x:AT} {w:jj} (h:AG M s x w):∀j∈x.own s,j∈M:=fun j a=>by
 obtain ⟨g,d,i,k,f,b,l,m⟩:=h;unfold AT.own at a;rcases ja.1 a with e|a
 .rw [e];exact d.1
 .rcases jT.1 a with a|a
  .exact f j a
  .obtain ⟨y,c,a⟩:=jd.1 a;rcases ja.1 a with e|a
   .rw [e];exact (b y c).1.1
   .exact (b y c).1.2.1 j a
theorem AG.narrow {M M':jr} {s:Nat} {x:AT} {w:jj} (h:AG M s x w) (d:∀j∈M',j∈M) (a:∀j∈x.own s,j∈M'):AG M' s x w:=by
 obtain ⟨g,i,l,m,p,f,n,o⟩:=h;refine ⟨g,i.narrow d (a _ (by simp [AT.own])),l,m,fun k c=>a _ (by simp [AT.own,c]),fun y b=>⟨(f y b).1.narrow d (a _ ?_) (fun k c=>a _ ?_),(f y b).2⟩,n,o⟩
 .have:=(Hy b).1;simp [AT.own,this]
 .have:=(Hy b).2 k c;simp [AT.own,this]
theorem AG.nodup {M:jr} {s:Nat} {x:AT} {w:jj} (h:AG M s x w):(x.own s).Nodup:=by
 obtain ⟨b,c,d,f,g,i,a,k⟩:=h;exact a
theorem Lr {d:ju} {M:jr} {s:Nat} {c:Ac} {m:List BK} {n:Int} {L:jr} {a:List (Nat×AF×List Nat)} {w w':jj} (t:Eu w d (a.map fun y=>y.1)) (o:gl d=L) (u:∀k∈L,k∈M) (p:∀y∈a,Br M y.1 y.2.1 y.2.2 w/\y.2.1.OK) (q:(s::(L++Bh a)).Nodup) (v:a.length<=4) (x:s∈M) (k:Ab [s] w w') (z:Bt d M s c m n w'):AG M s ⟨c,m,n,L,a⟩ w':=by
 have i:=(List.nodup_cons.1 q).1;have A:∀j∈[s],j∈M\/w.heap.size<=j:=fun j l=>by rw [jP.1 l];exact Or.inl x
 refine ⟨d,z,MO t k (fun g r b=>i ?_),o,u,fun y f=>⟨(p y f).1.but k (fun b=>i ?_) (fun j l b=>i ?_) A,(p y f).2⟩,q,v⟩
 .rw [jP.1 b,o] at r;exact jg _ r
 .rw [<-jP.1 b];exact jU _ (Hy f).1
 .rw [<-jP.1 b];exact jU _ ((Hy f).2 j l)
def Ia (M:jr) (q:Nat) (x:AT) (a:Int) (w:jj) (e:Ending) (w':jj):Prop:=e= .returned (.int .i64 a)/\Ab [q] w w'/\AG M q x w'
section
variable (M:List Nat) (q:Nat) (c:Ac) (B:List BK) (g:Int) {L:List Nat} {ps:List (Nat×AF×List Nat)}
theorem Se (id:jt) (n:Int) (w:jj) (l:AG M q ⟨c,B,g,L,ps⟩ w) (m:∀k∈M,k<w.heap.size) (o:c.OK) (p:AH B) (a:0<=g) (b:g<=4611686018427387904):
  Calls Tryz.prog 20 #[.pointer (some ⟨q,0,none⟩),.string id,.int .i64 n] w (Ia M q ⟨c,Dj B id n,if Cw B id n=0 then g+1 else g,L,ps⟩ (Cw B id n) w):=by
 obtain ⟨y,f,r,s,t,u,v,x⟩:=l;refine (KV M q c B g id n w f m o p a b).mono ?_;rintro e w' ⟨rfl,i,d⟩;exact ⟨rfl,i,Lr r s t u v x f.1 i d⟩
theorem Wi (id:jt) (w:jj) (l:AG M q ⟨c,B,g,L,ps⟩ w) (m:∀k∈M,k<w.heap.size) (n:c.OK) (o:AH B) (a:0<=g) (b:g<=4611686018427387904):
  Calls Tryz.prog 60 #[.pointer (some ⟨q,0,none⟩),.string id] w (Ia M q ⟨c,EQ B id,if Ej B id=0 then g+1 else g,L,ps⟩ (Ej B id) w):=by
 obtain ⟨x,f,p,r,s,t,u,v⟩:=l;refine (SG M q c B g id w f m n o a b).mono ?_;rintro e w' ⟨rfl,i,d⟩;exact ⟨rfl,i,Lr p r s t u v f.1 i d⟩
theorem TX (id:jt) (n:Int) (w:jj) (l:AG M q ⟨c,B,g,L,ps⟩ w) (m:∀k∈M,k<w.heap.size) (o:c.OK) (p:AH B) (a:0<=g) (b:g<=4611686018427387904):
  Calls Tryz.prog 61 #[.pointer (some ⟨q,0,none⟩),.string id,.int .i64 n] w (Ia M q ⟨c,Er B id n,if Dy B id n=0 then g+1 else g,L,ps⟩ (Dy B id n) w):=by
 obtain ⟨y,f,r,s,t,u,v,x⟩:=l;refine (Qt M q c B g id n w f m o p a b).mono ?_;rintro e w' ⟨rfl,i,d⟩;exact ⟨rfl,i,Lr r s t u v x f.1 i d⟩
theorem N9 (w:jj) (a:AG M q ⟨c,B,g,L,ps⟩ w):
  Calls Tryz.prog 66 #[.pointer (some ⟨q,0,none⟩)] w fun e w'=>e= .returned (.int .i64 g)/\w=w':=by
 obtain ⟨d,b, -⟩:=a;exact YQ M q c B g w b
theorem UC (w:jj) (a:AG M q ⟨c,B,g,L,ps⟩ w) (b:(An c B).length<=65536):
  Calls Tryz.prog 21 #[.pointer (some ⟨q,0,none⟩)] w (Lx w (CM B (An c B))):=by
 obtain ⟨f,d, -⟩:=a;exact PP M q c B g w d b
theorem Uf (k:jt) (w:jj) (a:AG M q ⟨c,B,g,L,ps⟩ w) (b:(An c B).length<=65536) (d:c.OK) (f:k.size<=4611686018427386000):
  Calls Tryz.prog 68 #[.pointer (some ⟨q,0,none⟩),.string k] w (EH w (IT c B g k)):=by
 obtain ⟨l,i, -⟩:=a;exact U1 M q c B g k w i b d f
end
theorem Tj (M:jr) (q:Nat) (c:Ac) (B:List BK) (g:Nat) {L:jr} {d:List (Nat×AF×List Nat)} (f:Int) (w:jj) (i:AG M q ⟨c,B,(g:Int),L,d⟩ w) (k:(An c B).length<=65536) (l:c.OK) (b:AL B) (m:g<=4611686018427387904):
  Calls Tryz.prog 64 #[.pointer (some ⟨q,0,none⟩),.int .i64 f] w (Ff w (I9 f g c B (An c B))):=by
 obtain ⟨t,⟨_,n,o,p,r,hF,s,a⟩, -⟩:=i;exact YB q f g c n o B (An c B) w p r (Ap.unmask s) (Ap.unmask a) b ((Ac.ok_iff c).1 l).1 (PI c b) k m
theorem Uq (M:jr) (q:Nat) (c:Ac) (B:List BK) (g:Nat) {L:jr} {f:List (Nat×AF×List Nat)} (t:jt) (w:jj) (i:AG M q ⟨c,B,(g:Int),L,f⟩ w) (k:(An c B).length<=65536) (b:c.OK) (d:AL B) (l:g<=4294967296) (m:t.size<=1099511627776):
  Calls Tryz.prog 40 #[.pointer (some ⟨q,0,none⟩),.string t] w (DE w (GO c.formats.toNat g c B (An c B) t.data.toList)):=by
 obtain ⟨u,⟨_,n,o,p,r,hF,s,a⟩, -⟩:=i;have v:=((Ac.ok_iff c).1 b).2;exact Tn q c.formats.toNat g c n o B (An c B) t w p jo r (Ap.unmask s) (Ap.unmask a) d ((Ac.ok_iff c).1 b).1 (PI c d) k l jo m
end Go.Proofs.YtpapdkhjdelfcaaGreat
