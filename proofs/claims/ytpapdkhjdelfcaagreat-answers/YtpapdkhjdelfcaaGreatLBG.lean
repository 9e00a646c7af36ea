import Derived.Test.YtpapdkhjdelfcaaGreatLAD
import Derived.Deep.QuietTactic
import Derived.BigQuiet
import Derived.Deep.RegionWith
namespace Go.Proofs.YtpapdkhjdelfcaaGreat
open Go.RowKit
set_option maxRecDepth 100000
set_option maxHeartbeats 4000000
def CE (f:Nat->Nat):Nat->Nat
 |0=>0
 |l+1=>CE f l+f l
theorem Rj (f g:Nat->Nat) (l:Nat):CE (fun i=>f i+g i) l=CE f l+CE g l:=by
 induction l with
 |zero=>rfl
 |succ l ih=>simp only [CE,ih];omega
theorem Pf (f:Nat->Nat) (l:Nat) (h:∀i,i<l->f i=0):CE f l=0:=by
 induction l with
 |zero=>rfl
 |succ l ih=>simp only [CE];rw [ih (fun i a=>h i jo),h l jo]
theorem Tz (k l:Nat) (a:k<l):CE (fun i=>if i=k then 1 else 0) l=1:=by
 induction l with
 |zero=>omega
 |succ l ih=>
  simp only [CE];by_cases h:l=k
  .subst h;rw [Pf _ _ (fun i b=>if_neg jo),if_pos rfl]
  .rw [ih jo,if_neg h]
theorem Ui (f g:Nat->Nat) (l:Nat) (h:∀i,i<l->f i<=g i):CE f l<=CE g l:=by
 induction l with
 |zero=>exact jH _
 |succ l ih=>simp only [CE];have:=ih (fun i a=>h i jo);have:=h l jo;omega
theorem SX (f g:Nat->Nat) (l:Nat) (h:∀i,i<l->f i<=g i) (k:Nat) (d:k<l) (a:f k<g k):CE f l<CE g l:=by
 induction l with
 |zero=>omega
 |succ l ih=>
  simp only [CE];by_cases b:l=k
  .subst b;have:=Ui f g l (fun i c=>h i jo);omega
  .have:=ih (fun i c=>h i jo) jo;have:=h l jo;omega
theorem QP (f g:Nat->Nat) (l:Nat) (h:∀i,i<l->f i=g i):CE f l=CE g l:=by
 induction l with
 |zero=>rfl
 |succ l ih=>simp only [CE];rw [ih (fun i a=>h i jo),h l jo]
theorem VZ (l:Nat) (S:List Int) (h:∀x∈S,∃i:Nat,i<l/\x=(i:Int)):S.length=CE (fun i=>S.count (i:Int)) l:=by
 induction S with
 |nil=>simp;rw [Pf _ _ (fun _ _=>by simp)]
 |cons x S ih=>
  obtain ⟨k,b,rfl⟩:=h x List.mem_cons_self
  have c:CE (fun i=>((k:Int)::S).count (i:Int)) l=CE (fun i=>S.count (i:Int)+if i=k then 1 else 0) l:=by
   refine QP _ _ _ fun i _=>?_
   rw [List.count_cons];congr 1;by_cases a:i=k
   .subst a;simp
   .rw [if_neg a,if_neg];simp;omega
  rw [c,Rj,Tz k l b,<-ih (fun x d=>h x (jW _ d)),List.length_cons]
theorem Qz (f:Nat->Nat) (n:Nat) (b:∀i j,i<j->j<n->f i≠f j) (v:Nat):∀m,m<=n->((List.range m).map fun i=>((f i:Nat):Int)).count (v:Int)<=1:=by
 intro m
 induction m with
 |zero=>intro _;simp
 |succ m ih=>
  intro g;rw [List.range_succ,List.map_append,List.count_append];by_cases k:f m=v
  .have c:((List.range m).map fun i=>((f i:Nat):Int)).count (v:Int)=0:=by
    rw [List.count_eq_zero];intro a;obtain ⟨i,d,e⟩:=List.mem_map.1 a;exact b i m (List.mem_range.1 d) jo jo
   rw [c,Nat.zero_add]
   exact List.count_le_length
  .have:=ih jo
   have l:(List.map (fun i=>((f i:Nat):Int)) [m]).count (v:Int)=0:=by
    rw [List.count_eq_zero];intro a;simp at a;omega
   omega
theorem Uu (f:Nat->Nat) (n:Nat) (b:∀i j,i<j->j<n->f i≠f j) (c:∀i,i<n->f i<n) (v:Nat) (d:v<n):∃i,i<n/\f i=v:=by
 have g := VZ n ((List.range n).map fun i => ((f i : Nat) : Int)) (by
   intro x k
   obtain ⟨i, a, rfl⟩ := List.mem_map.1 k
   exact ⟨f i, c i (List.mem_range.1 a), rfl⟩)
 rw [je,List.length_range] at g;by_cases q:((List.range n).map fun i=>((f i:Nat):Int)).count (v:Int)=0
 .have m:=SX (fun i=>((List.range n).map fun i=>((f i:Nat):Int)).count (i:Int)) (fun _=>1) n (fun i _=>Qz f n b i n (jH _)) v d (by show List.count _ _<1;omega)
  have o:∀l,CE (fun _=>1) l=l:=fun l=>by
   induction l with
   |zero=>rfl
   |succ l ih=>simp only [CE,ih]
  rw [o] at m;omega
 .have p:(v:Int)∈(List.range n).map fun i=>((f i:Nat):Int):=jb.1 jo
  obtain ⟨i,a,e⟩:=List.mem_map.1 p;exact ⟨i,List.mem_range.1 a,jo⟩
theorem Tc (n:Nat) (w:2<=n) (f:∀d:Nat,2<=d->d<n->n % d≠0) (o s:Int) (m:0<=o) (p:1<=s) (q:s<n) (v:Nat) (r:v<n):∃i,i<n/\A0 n (o,s) i=v:=by
 obtain ⟨o,rfl⟩:=jM m;obtain ⟨s,rfl⟩:=jM (show 0<=s by omega)
 have a:∀i,A0 n ((o:Int),(s:Int)) i=(o+i * s) % n:=fun i=>by
  unfold A0;show (((o:Int)+(i:Int) * (s:Int)) % (n:Int)).toNat=_;have:((o:Int)+(i:Int) * (s:Int)) % (n:Int)=(((o+i * s) % n:Nat):Int):=js
  rw [this];rfl
 have b:Nat.Coprime n s:=by
  have c:Nat.gcd n s ∣ n:=Nat.gcd_dvd_left n s;have g:Nat.gcd n s<=s:=Nat.le_of_dvd jo (Nat.gcd_dvd_right n s);have t:0<Nat.gcd n s:=Nat.gcd_pos_of_pos_left _ jo;rcases Nat.lt_or_ge (Nat.gcd n s) 2 with k|k
  .show Nat.gcd n s=1;omega
  .exact absurd (Nat.mod_eq_zero_of_dvd c) (f _ k jo)
 refine Uu (A0 n ((o:Int),(s:Int))) n ?_ (fun i _=>by rw [a];exact Nat.mod_lt _ jo) v r;intro i j u x l;rw [a,a] at l;have c:n ∣ (o+j * s) - (o+i * s):=Nat.dvd_of_mod_eq_zero (Nat.sub_mod_eq_zero_of_mod_eq l.symm)
 have g:(o+j * s) - (o+i * s)=s * (j - i):=by
  rw [Nat.mul_sub,Nat.mul_comm s j,Nat.mul_comm s i];omega
 rw [g] at c;have t:=Nat.le_of_dvd jo (b.dvd_of_dvd_mul_left c);omega
def LB (l:Nat) (S:List Int):Prop:=∀x∈S,x= -1\/∃i:Nat,i<l/\x=(i:Int)
theorem LB.free {l:Nat} {S:List Int} (h:LB l S) (d:CE (fun i=>S.count (i:Int)) l<S.length):∃v,v<S.length/\S.getD v 0<0:=by
 by_cases a:(-1:Int)∈S
 .obtain ⟨v,b,e⟩:=List.mem_iff_getElem.1 a;exact ⟨v,b,by rw [jV,jG b,e];decide⟩
 .have:=VZ l S (fun x c=>(h x c).resolve_left (fun e=>a (e ▸ c)));omega
theorem KT (R:List Int) (n:Nat):((A5 R n).2= -1\/((0<=(A5 R n).1/\(A5 R n).1<n)/\R.getD (A5 R n).1.toNat 0=(A5 R n).2))/\ -1<=(A5 R n).2/\∀j,j<n->R.getD j 0<=(A5 R n).2:=by
 induction n with
 |zero=>exact ⟨Or.inl rfl,Int.le_refl (-1),fun j c=>by omega⟩
 |succ n ih=>
  obtain ⟨f,g,d⟩:=ih;simp only [A5];split
  .rename_i b;refine ⟨Or.inr ⟨⟨jv,jv⟩,js⟩,jv,fun j c=>?_⟩;show R.getD j 0<=R.getD n 0;by_cases a:j=n
   .subst a;exact Int.le_refl _
   .have:=d j jo;omega
  .rename_i b;refine ⟨f.imp id (fun h=>⟨⟨h.1.1,jo⟩,h.2⟩),g,fun j c=>?_⟩;by_cases a:j=n
   .subst a;omega
   .exact d j jo
theorem P6 {R:List Int} (h:0<R.countP fun x=>decide (0<x)):0<=C1 R/\(C1 R).toNat<R.length/\0<R.getD (C1 R).toNat 0:=by
 obtain ⟨b,k,f⟩:=KT R R.length;obtain ⟨x,g,a⟩:=List.countP_pos_iff.1 h;obtain ⟨j,c,e⟩:=List.mem_iff_getElem.1 g;have d:=f j c;rw [jV,jG c,e] at d;simp only [Option.getD_some] at d;have l:0<x:=by simpa using a
 rcases b with b|⟨⟨i,m⟩,n⟩
 .omega
 .unfold C1;exact ⟨i,jo,jo⟩
theorem LP (v:Int):∀(s:List Int) (k:Nat),k<s.length->(s.set k v).sum=s.sum - s.getD k 0+v
 |[],k,h=>by simp at h
 |x::s,0,_=>by simp;omega
 |x::s,k+1,h=>by
  have:=LP v s k (by simpa using h);simp only [List.set_cons_succ,List.sum_cons,List.getD_cons_succ,this];omega
theorem KZ (s:List Int) (k j:Nat) (v:Int) (a:k<s.length):(s.set k v).getD j 0=if j=k then v else s.getD j 0:=by
 rw [jV,jV,List.getElem?_set];by_cases h:j=k
 .subst h;simp [a]
 .rw [if_neg (fun e=>h e.symm),if_neg h]
theorem Np:∀(k:Nat) (s r:List Int),s.length=r.length->k<=r.countP (fun x=>decide (0<x))->
  (CI k s r).sum=s.sum+k/\(CI k s r).length=s.length/\∀j,j<s.length->(CI k s r).getD j 0=s.getD j 0\/((CI k s r).getD j 0=s.getD j 0+1/\0<r.getD j 0)
 |0,s,r,_,_=>⟨by simp [CI],rfl,fun j _=>Or.inl rfl⟩
 |k+1,s,r,hl,hk=>by
  obtain ⟨t,d,f⟩:=P6 (R:=r) jo;rw [CI,if_neg jo];generalize (C1 r).toNat=b at d f;have i:b<s.length:=jo
  have l:r[b]=r.getD b 0:=by rw [jV,jG d];rfl
  have g:(r.set b (-1)).countP (fun x=>decide (0<x))=r.countP (fun x=>decide (0<x)) - 1:=by
   have m:decide (0<r.getD b 0)=true:=jL f;rw [List.countP_set d,l,m];simp
  obtain ⟨n,o,p⟩:=Np k (s.set b (s.getD b 0+1)) (r.set b (-1)) (by simp [hl]) (by rw [g];omega);refine ⟨?_,by rw [o];simp,fun j q=>?_⟩
  .rw [n,LP _ _ _ i];push_cast;omega
  .have a:=p j (by simpa using q);rw [KZ _ _ _ _ i,KZ _ _ _ _ d] at a;by_cases c:j=b
   .subst c;rw [if_pos rfl,if_pos rfl] at a;rcases a with a|⟨_,u⟩
    .exact Or.inr ⟨a,f⟩
    .omega
   .rw [if_neg c,if_neg c] at a;exact a
theorem K7 (M W:Int):∀B:List BK,(B.map fun b=>M * b.2).sum=W * (B.map fun b=>M * b.2 / W).sum+(B.map fun b=>M * b.2 % W).sum
 |[]=>by simp
 |b::B=>by
  have a:=K7 M W B;have c:=Int.mul_ediv_add_emod (M * b.2) W;simp only [List.map_cons,List.sum_cons,a,Int.mul_add];omega
theorem LY (M:Int):∀B:List BK,(B.map fun b=>M * b.2).sum=M * (B.map (·.2)).sum
 |[]=>by simp
 |b::B=>by simp only [List.map_cons,List.sum_cons,LY M B,Int.mul_add]
theorem Me (W:Int):∀R:List Int,(∀x∈R,0<=x/\x<W)->0<=R.sum/\R.sum<=W * (R.countP fun x=>decide (0<x))
 |[],_=>by simp
 |x::R,h=>by
  obtain ⟨c,d⟩:=Me W R (fun y b=>h y (jW _ b));obtain ⟨f,g⟩:=h x List.mem_cons_self;rw [List.sum_cons,List.countP_cons];refine ⟨jo,?_⟩;by_cases a:0<x
  .simp only [a,decide_true,if_true];push_cast;rw [Int.mul_add];omega
  .simp only [a,decide_false];simp;omega
theorem Ma (M:Int) (B:List BK) (f:0<=M) (i:∀b∈B,0<=b.2) (n:1<=As B):
  (CJ M B).sum=M/\(CJ M B).length=B.length/\∀j,j<B.length->0<=(CJ M B).getD j 0/\((CJ M B).getD j 0=(Bi M B).getD j 0\/((CJ M B).getD j 0=(Bi M B).getD j 0+1/\0<(CF M B).getD j 0)):=by
 have d:=K7 M (As B) B;rw [LY] at d
 have o := Me (As B) (CF M B) (by
   intro x k
   obtain ⟨b, p, rfl⟩ := List.mem_map.1 k
   exact ⟨Int.emod_nonneg _ jo, Int.emod_lt_of_pos _ jo⟩)
 have q:M * As B=As B * (Bi M B).sum+(CF M B).sum:=d;have r:As B * (M - (Bi M B).sum)=(CF M B).sum:=by rw [Int.mul_sub,Int.mul_comm (As B) M];omega
 have s:0<=M - (Bi M B).sum:=by
  rcases Int.lt_or_le (M - (Bi M B).sum) 0 with h|h
  .have:=Int.mul_neg_of_pos_of_neg (show 0<As B by omega) h;omega
  .exact h
 have t:M - (Bi M B).sum<=((CF M B).countP fun x=>decide (0<x):Nat):=by
  refine Int.le_of_mul_le_mul_left (a:=As B) ?_ jo;omega
 have g:=Np (M - (Bi M B).sum).toNat (Bi M B) (CF M B) (by simp [Bi,CF]) jo;have l:CJ M B=CI (M - (Bi M B).sum).toNat (Bi M B) (CF M B):=by unfold CJ;rw [if_neg jo]
 rw [l];refine ⟨by rw [g.1];omega,by rw [g.2.1];simp [Bi],fun j c=>?_⟩;have m:=g.2.2 j (by simpa [Bi] using c)
 have u:0<=(Bi M B).getD j 0:=by
  unfold Bi;rw [jV,List.getElem?_map,jG c];exact Int.ediv_nonneg (Int.mul_nonneg f (i _ (jJ c))) jo
 exact ⟨jo,m⟩
def DJ (m:Int) (B:List BK):List Int:=if As B<1 then List.replicate B.length 0 else CJ m B
theorem Uw (R:List Int) (n:Nat):((A5 R n).1= -1/\(A5 R n).2= -1)\/∃k:Nat,k<n/\(A5 R n).1=k/\(A5 R n).2=R.getD k 0/\0<=R.getD k 0:=by
 induction n with
 |zero=>exact Or.inl ⟨rfl,rfl⟩
 |succ n ih=>
  simp only [A5];split
  .rename_i a;refine Or.inr ⟨n,jo,rfl,rfl,?_⟩;have:=(KT R n).2.1;omega
  .rcases ih with h|⟨k,c,b⟩
   .exact Or.inl h
   .exact Or.inr ⟨k,jo,b⟩
theorem Sw {m a W:Int} (c:0<=m) (d:m<=300) (b:0<=a) (f:a<=6) (n:0<W):∃q x y:Int,q=m * a / W/\x=m * a/\(wrap64 (m * a)=x/\IntKind.i64.wrap (m * a)=x)/\(wrap64 (q * W)=y/\IntKind.i64.wrap (q * W)=y)/\(wrap64 (x.tdiv W)=q/\IntKind.i64.wrap (x.tdiv W)=q)/\(wrap64 (x - y)=m * a % W/\IntKind.i64.wrap (x - y)=m * a % W)/\0<=q/\q<=1800:=by
 have g:0<=m * a:=Int.mul_nonneg c b;have o:m * a<=300 * 6:=Int.mul_le_mul d f b jo;have i:0<=m * a / W:=Int.ediv_nonneg g jo;have p:m * a / W<=m * a:=Int.ediv_le_self _ g;have r:m * a / W * W<=m * a:=Int.ediv_mul_le _ jo;have s:0<=m * a / W * W:=Int.mul_nonneg i jo;have k:(m * a).tdiv W=m * a / W:=Int.tdiv_eq_ediv_of_nonneg g;have l:m * a % W=m * a - m * a / W * W:=by have:=Int.mul_ediv_add_emod (m * a) W;rw [Int.mul_comm W] at this;omega
 refine ⟨m * a / W,m * a,m * a / W * W,rfl,rfl,?_⟩;rw [k,l];generalize m * a / W * W=y at *;generalize m * a / W=z at *;generalize m * a=x at *;unfold wrap64;simp only [IntKind.wrap_i64];omega
theorem RZ (M:Int) (B:List BK) (f:1<=As B):(Bi M B).sum<=M/\(M - (Bi M B).sum).toNat<=(CF M B).countP (fun x=>decide (0<x)):=by
 have c:=K7 M (As B) B;rw [LY] at c
 have g := Me (As B) (CF M B) (by
   intro x d
   obtain ⟨b, i, rfl⟩ := List.mem_map.1 d
   exact ⟨Int.emod_nonneg _ jo, Int.emod_lt_of_pos _ jo⟩)
 have k:M * As B=As B * (Bi M B).sum+(CF M B).sum:=c;have l:As B * (M - (Bi M B).sum)=(CF M B).sum:=by rw [Int.mul_sub,Int.mul_comm (As B) M];omega
 have m:0<=M - (Bi M B).sum:=by
  rcases Int.lt_or_le (M - (Bi M B).sum) 0 with h|h
  .have:=Int.mul_neg_of_pos_of_neg (show 0<As B by omega) h;omega
  .exact h
 have n:M - (Bi M B).sum<=((CF M B).countP fun x=>decide (0<x):Nat):=by
  refine Int.le_of_mul_le_mul_left (a:=As B) ?_ jo;omega
 exact ⟨jo,jo⟩
theorem Qn {t:Nat} {O R X:List Int} {k:Nat} (d:C1 R=(k:Int)) (a:k<O.length) (b:k<R.length) (f:0<R[k]) (c:CI (t+1) O R=X) (i:t+1<=R.countP (fun x=>decide (0<x))):CI t (O.set k (O[k]+1)) (R.set k (-1))=X/\t<=(R.set k (-1)).countP (fun x=>decide (0<x)):=by
 rw [CI,d,if_neg jo,Int.toNat_natCast,jV,jG a] at c;refine ⟨c,?_⟩;have g:decide (0<R[k])=true:=jL f;rw [List.countP_set b,g];simp;omega
theorem BS.made {base:Nat} {w:World} {g n:Nat} (h:w.ownsRow base 3 1 (.slice (some ⟨g,0,none⟩) n n) n (madeCells #[Value.int .i64 0] n).toList):BS base w (sl g (List.replicate n (0:Int)).length n) (List.replicate n 0):=by
 unfold BS sl;rw [List.length_replicate,List.map_replicate,<-toList_madeCells_one];exact h
def T9 (w:World) (B:List BK) (m:Int) (a b:Nat) (r:Nat) (n i:Value) (wr:World):Prop:=Aa w wr/\∃(k:Nat) (O R:List Int) (s:Int),r=B.length - k/\k<=B.length/\i= .int .i64 k/\n= .int .i64 s/\Cj w.heap.size a b B.length B.length wr O R/\O.length=B.length/\R.length=B.length/\
 O.take k=(Bi m B).take k/\R.take k=(CF m B).take k/\s=((Bi m B).take k).sum/\0<=s/\s<=1800 * k/\∀x∈O,0<=x/\x<=1800
def N5 (w:World) (B:List BK) (m:Int) (X:List Int) (a b:Nat) (r:Nat) (n:Value) (wr:World):Prop:=Aa w wr/\∃(O R:List Int) (s:Int),r=(m - s).toNat/\0<=s/\s<=m/\n= .int .i64 s/\Cj w.heap.size a b B.length B.length wr O R/\O.length=B.length/\R.length=B.length/\CI (m - s).toNat O R=X/\(m - s).toNat<=R.countP (fun x=>decide (0<x))/\∀x∈O,0<=x/\x<=2100 - (m - s)
theorem Ug (B:List BK) (v:Value) (m:Int) (w:World) (hP:Am w v B) (hB:AL B) (bc:0<=m) (bd:m<=300):
  Calls Tryz.prog 188 #[v,.int .i64 m] w (Nq w (DJ m B)):=by
 obtain ⟨i0,hi,an,ap,aq⟩:=info_parts Tryz.infoInt;obtain ⟨h8,H⟩:=hB;obtain ⟨ao,cap,rfl,hc⟩:=hP.open;obtain ⟨W,hW⟩:∃W,W=As B:=⟨_,rfl⟩;have HW:=jp hW;obtain ⟨X,hX⟩:∃X,X=DJ m B:=⟨_,rfl⟩;rw [<-hX];have HX:=jp hX;clear hW hX;go_enter Tryz.func188,Tryz.ntmps188;go_wp2;go_loopg [5,6] B.length (fun r s n wr=>w=wr/\∃k:Nat,r=B.length - k/\k<=B.length/\n= .int .i64 k/\s= .int .i64 (As (B.take k)))
 case atStart=>exact ⟨rfl,0,jo,jo,rfl,rfl⟩
 case round=>
  obtain ⟨rfl,k,hr,hk,rfl,rfl⟩:=hrel;have ar:=Kq B (fun b Q=>(H b Q).2.2) k;have be:k<=8:=jo
  by_cases f:k<B.length
  .obtain ⟨g,rfl,c0,c1⟩:=hc k f;have HS:Hid (As (B.take (k+1))=As (B.take k)+B[k].2):=Lc B k f;have hw:=(H _ (jJ f)).2.2;clear hc;generalize B[k].1=bw at *;generalize B[k].2=wk at *;generalize As (B.take k)=sk at *;obtain ⟨au,av⟩:=hw;obtain ⟨ac,U⟩:=ar;go_wp2;go_roundg (B.length - (k+1))
   case measure=>omega
   case rel=>exact ⟨rfl,k+1,rfl,jo,by go_num,by rw [HS.out]⟩
  .have HE:As (B.take k)=W:=by rw [jR jo];exact HW.out.symm
   rw [HE] at ar |-;clear HE;have bx:B.length<=8:=h8;go_wp2_with (first|(at_make;refine wpList_make_full _ rfl _ _ 116 rfl w.heap.size 3 i0 (.int .i64 0) 1 Tryz.underlying116 hi an ap _ _ _ _ B.length rfl rfl rfl rfl ?b2 ?b3 ?b4 ?_))
   case b2=>first|omega|(rw [aq];omega)
   case b3=>unfold maxLen;omega
   case b4=>exact jH _
   intro w1 D aw;have ac:Aa w w1:=(jD _).grown aw (fun g hg=>by cases hg);have ax:w.heap.size<w1.heap.size:=(World.ownsRow.lt D _ rfl).2;have ay:=BS.made D;clear aw D;go_wp2_with (first|(at_make;refine wpList_make_full _ rfl _ _ 116 rfl w.heap.size 3 i0 (.int .i64 0) 1 Tryz.underlying116 hi an ap _ _ _ _ B.length rfl rfl rfl rfl ?c2 ?c3 ?c4 ?_))
   case c2=>first|omega|(rw [aq];omega)
   case c3=>unfold maxLen;omega
   case c4=>omega
   intro w2 I az;have U:Aa w1 w2:=(jD _).grown az (fun g hg=>by cases hg);have a0:=BS.made I;have V:Cj w.heap.size w.heap.size w1.heap.size B.length B.length w2 (List.replicate B.length 0) (List.replicate B.length 0):=⟨ay.later U,a0,jo⟩;have ad:Aa w w2:=ac.trans U;clear az I ay a0 ac U ax;generalize w1.heap.size=F at *;generalize ae:w.heap.size=E at *;by_cases af:0<W
   .have bf:decide (W>0)=true:=jL af;have ag:Hid (X=CJ m B):=by show X=_;rw [HX.out,DJ,if_neg (by rw [<-HW.out];omega)]
    go_wp2;go_loopg [9,10] B.length (T9 w B m E F)
    case atStart=>exact ⟨ad,0,_,_,0,jo,jo,rfl,rfl,by rw [ae];exact V,js,js,js,js,js,jo,jo,fun x S=>by have:=List.eq_of_mem_replicate S;omega⟩
    case round=>
     clear V ad;obtain ⟨Q,k,O,R,s,hr,hk,rfl,rfl,J,o,C,hO,hR,hs,ah,bg,c⟩:=hrel;have be:k<=8:=jo
     by_cases f:k<B.length
     .obtain ⟨g,rfl,c0,c1⟩:=hc k f;have bh:=Q.cell c1;obtain ⟨au,av⟩:=(H _ (jJ f)).2.2;obtain ⟨q,x,y,hq,S,⟨m1,m2⟩,⟨y1,y2⟩,⟨q1,q2⟩,⟨z1,z2⟩,bz,b0⟩:=Sw bc bd au av af
      have HA:Hid ((Bi m B).take (k+1)=(Bi m B).take k++[q]):=by
       show List.take _ _=_;rw [jQ (by simp [Bi];exact f),hq];simp only [Bi,List.getElem_map,HW.out]
      have HB:Hid ((CF m B).take (k+1)=(CF m B).take k++[m * B[k].2 % W]):=by
       show List.take _ _=_;rw [jQ (by simp [CF];exact f)];simp only [CF,List.getElem_map,HW.out]
      clear hq hc c0 S;generalize B[k].2=wk at *;generalize m * wk % W=z at *;have l:Hid (O.length=B.length/\R.length=B.length/\O.take k=(Bi m B).take k/\R.take k=(CF m B).take k/\s=((Bi m B).take k).sum/\∀x∈O,0<=x/\x<=1800):=⟨o,C,hO,hR,hs,c⟩;have G:=J.set1 k q;have d1:∃u,wr.cell? ⟨E,k,none⟩=some u:=⟨_,(World.ownsRow.cellAt J.1 k jo).trans (by rw [List.getElem?_map,jG jo];rfl)⟩;obtain ⟨u1,d1⟩:=d1;have e1:=World.ownsRow.frozenAt J.1 k;clear J o C hO hR hs c;have b5:(W==0)=false:=by rw [jI];omega
      go_wp2_with fail;have a1:Aa w (wr.setCell ⟨E,k,none⟩ (.int .i64 q)):=Q.step_set (by rw [ae];exact jH _) _;have f1:(wr.setCell ⟨E,k,none⟩ (.int .i64 q)).cell? ⟨E,k,none⟩=some (.int .i64 q):=Bc d1;have b2:=a1.cell c1;have d2:∃u,(wr.setCell ⟨E,k,none⟩ (.int .i64 q)).cell? ⟨F,k,none⟩=some u:=⟨_,(World.ownsRow.cellAt G.2.1 k (by have:=l.out.2.1;omega)).trans (by rw [List.getElem?_map,jG (by have:=l.out.2.1;omega)];rfl)⟩;obtain ⟨u2,d2⟩:=d2;have e2:=World.ownsRow.frozenAt G.2.1 k;have bi:F≠E:=G.2.2.symm;have bj:=jp G;have ai:w.heap.size<=F:=(World.ownsRow.lt G.2.1 F rfl).1;clear G d1 e1 Q bh m1;generalize wr.setCell ⟨E,k,none⟩ (.int .i64 q)=wq at *;go_region_with fail
      all_goals
       go_wp2_with fail;go_roundg (B.length - (k+1))
       case measure=>omega
       case rel=>
        refine ⟨Aa.trans (a1.step_set (p:=⟨F,k,none⟩) ai (.int .i64 z)) jq,k+1,O.set k q,R.set k z,s+q,rfl,jo,by go_num,by go_num,(bj.out.set2 k z).later jq,by rw [List.length_set];exact l.out.1,by rw [List.length_set];exact l.out.2.1,?_,?_,?_,jo,jo,?_⟩
        .rw [jQ (by rw [List.length_set,l.out.1];exact f),List.take_set_of_le (jH k),List.getElem_set_self,l.out.2.2.1,HA.out]
        .rw [jQ (by rw [List.length_set,l.out.2.1];exact f),List.take_set_of_le (jH k),List.getElem_set_self,l.out.2.2.2.1,HB.out]
        .rw [HA.out,l.out.2.2.2.2.1];simp
        .intro x S;rcases List.mem_or_eq_of_mem_set S with h|h
         .exact l.out.2.2.2.2.2 x h
         .omega
     .obtain rfl:k=B.length:=jo
      have HO:Hid (O=Bi m B):=by
       show O=_;rw [jR jo,jR (by simp [Bi])] at hO;exact hO
      have HR:Hid (R=CF m B):=by
       show R=_;rw [jR jo,jR (by simp [CF])] at hR;exact hR
      have aj:s=(Bi m B).sum:=by rw [hs,jR (by simp [Bi])]
      obtain ⟨K,L⟩:=RZ m B (by rw [<-HW.out];omega);rw [<-aj] at K L
      have H3 : Hid (N5 w B m X E F (m - s).toNat (.int .i64 s) wr) := ⟨Q, O, R, s, rfl, ah, K, rfl, J, o, C, by
        rw [ag.out, CJ, if_neg (by rw [<- HW.out]; omega), HO.out, HR.out, aj], by rw [HR.out]; exact L, fun x S => ⟨(c x S).1, by have := (c x S).2; omega⟩⟩
      clear J o C hO hR hs c Q aj K L HO HR ah bg;go_wp2;go_loopg [9] (m - s).toNat (N5 w B m X E F)
      case atStart=>exact H3.out
      case round=>
       clear H3 s;obtain ⟨Q,O,R,s,hr,ah,b6,rfl,J,o,C,hg,M,c⟩:=hrel;by_cases aa:s<m
       .have bk:decide (s<m)=true:=jL aa;have HT:=jp J;have HG:Hid (CI (m - s).toNat O R=X/\(m - s).toNat<=R.countP (fun x=>decide (0<x))/\(∀x∈O,0<=x/\x<=2100 - (m - s))/\O.length=B.length):=⟨hg,M,c,o⟩;clear J hg M c o;go_wp2;generalize wr=wo at *;go_loopg [11,12] B.length (fun r kv i wx=>Aa wo wx/\∃j:Nat,r=B.length - j/\j<=B.length/\i= .int .i64 j/\kv= .int .i64 (A5 R j).1)
        case atStart=>exact ⟨jD _,0,jo,jo,rfl,rfl⟩
        case round=>
         obtain ⟨a2,j,b7,hj,rfl,rfl⟩:=hrel;have d:=HT.out.later a2;by_cases b8:j<B.length
         .have bl:decide ((j:Int)<(B.length:Int))=true:=jL jo;have a3:j<R.length:=jo
          have ak:R.getD j 0=R[j]:=by rw [jV,jG a3];rfl
          have d1:wr.cell? ⟨F,j,none⟩=some (.int .i64 R[j]):=(World.ownsRow.cellAt d.2.1 j jo).trans (by rw [List.getElem?_map,jG a3];rfl)
          have Y:Hid ((A5 R (j+1)).1=if (A5 R j).2<R[j] then (j:Int) else (A5 R j).1):=by
           show (A5 R (j+1)).1=_;rw [A5,ak];split <;>rfl
          have ab:=(KT R j).2.1;rcases Uw R j with ⟨b1,b2⟩|⟨N,b9,b1,b2,b3⟩
          .rw [b1] at Y |-;rw [b2] at Y;clear d b1 b2 ak ab;generalize R[j]=T at *;by_cases hp:0<=T
           .have al:decide (T>=0)=true:=jL hp;have A:Hid ((A5 R (j+1)).1=j):=by show (A5 R (j+1)).1=_;rw [Y.out,if_pos jo]
            go_wp2_with fail;go_quiet (fail);go_wp2;go_roundg (B.length - (j+1))
            case measure=>omega
            case rel=>exact ⟨jq,j+1,rfl,jo,by go_num,by rw [A.out]⟩
           .have al:decide (T>=0)=false:=jK hp;have A:Hid ((A5 R (j+1)).1= -1):=by show (A5 R (j+1)).1=_;rw [Y.out,if_neg jo]
            go_wp2_with fail;go_quiet (fail);go_wp2;go_roundg (B.length - (j+1))
            case measure=>omega
            case rel=>exact ⟨jq,j+1,rfl,jo,by go_num,by rw [A.out]⟩
          .have a4:N<R.length:=jo
           have d2:wr.cell? ⟨F,N,none⟩=some (.int .i64 R[N]):=(World.ownsRow.cellAt d.2.1 N jo).trans (by rw [List.getElem?_map,jG a4];rfl);have a5:R.getD N 0=R[N]:=by rw [jV,jG a4];rfl
           rw [a5] at b2 b3;rw [b1] at Y |-;rw [b2] at Y;clear d b1 b2 ak ab a5;generalize R[j]=T at *;generalize R[N]=rk at *;have P:decide ((N:Int)<0)=false:=jK jo;have bs:(N:Int)<(B.length:Int):=jo
           by_cases hp:0<=T
           .have al:decide (T>=0)=true:=jL hp;by_cases a6:rk<T
            .have ai:decide (T>rk)=true:=jL a6;have A:Hid ((A5 R (j+1)).1=j):=by show (A5 R (j+1)).1=_;rw [Y.out,if_pos jo]
             go_wp2_with fail;go_quiet (fail);go_wp2;go_roundg (B.length - (j+1))
             case measure=>omega
             case rel=>exact ⟨jq,j+1,rfl,jo,by go_num,by rw [A.out]⟩
            .have ai:decide (T>rk)=false:=jK a6;have A:Hid ((A5 R (j+1)).1=N):=by show (A5 R (j+1)).1=_;rw [Y.out,if_neg jo]
             go_wp2_with fail;go_quiet (fail);go_wp2;go_roundg (B.length - (j+1))
             case measure=>omega
             case rel=>exact ⟨jq,j+1,rfl,jo,by go_num,by rw [A.out]⟩
           .have al:decide (T>=0)=false:=jK hp;have A:Hid ((A5 R (j+1)).1=N):=by show (A5 R (j+1)).1=_;rw [Y.out,if_neg jo]
            go_wp2_with fail;go_quiet (fail);go_wp2;go_roundg (B.length - (j+1))
            case measure=>omega
            case rel=>exact ⟨jq,j+1,rfl,jo,by go_num,by rw [A.out]⟩
         .have bl:decide ((j:Int)<(B.length:Int))=false:=jK jo;obtain rfl:j=B.length:=jo
          obtain ⟨g1,g2,g3,g4⟩:=HG.out;obtain ⟨p1,p2,p3⟩:=P6 (R:=R) jo;obtain ⟨a,P⟩:=jM p1;rw [P,Int.toNat_natCast] at p2 p3;have a7:(A5 R B.length).1=(a:Int):=by rw [<-C];exact P
          have Z:a<O.length:=jo
          have a8:0<R[a]:=by rw [jV,jG p2] at p3;exact p3
          obtain ⟨t,ht⟩:∃t,(m - s).toNat=t+1:=⟨(m - s).toNat - 1,jo⟩;have a9:Hid (CI t (O.set a (O[a]+1)) (R.set a (-1))=X/\t<=(R.set a (-1)).countP (fun x=>decide (0<x))):=Qn P Z p2 a8 (by rw [<-ht];exact g1) (by rw [<-ht];exact g2);have bm:=g3 _ (jJ Z)
          have bn:Hid (∀x∈O.set a (O[a]+1),0<=x/\x<=2100 - (m - (s+1))):=by
           intro x S;rcases List.mem_or_eq_of_mem_set S with h|h
           .have:=g3 x h;omega
           .omega
          have d1:wr.cell? ⟨E,a,none⟩=some (.int .i64 O[a]):=(World.ownsRow.cellAt d.1 a jo).trans (by rw [List.getElem?_map,jG Z];rfl);have e1:=World.ownsRow.frozenAt d.1 a;have d2:∃u,wr.cell? ⟨F,a,none⟩=some u:=⟨_,(World.ownsRow.cellAt d.2.1 a jo).trans (by rw [List.getElem?_map,jG p2];rfl)⟩;obtain ⟨u2,d2⟩:=d2;have e2:=World.ownsRow.frozenAt d.2.1 a;have bi:=d.2.2;have ba:=(World.ownsRow.lt d.1 E rfl).1;have bb:=(World.ownsRow.lt d.2.1 F rfl).1;have bo:=jp ((d.set1 a (O[a]+1)).set2 a (-1));have bp:Hid (Aa w ((wr.setCell ⟨E,a,none⟩ (.int .i64 (O[a]+1))).setCell ⟨F,a,none⟩ (.int .i64 (-1)))):=((Q.trans a2).step_set (p:=⟨E,a,none⟩) ba _).step_set (p:=⟨F,a,none⟩) bb _;have bt:(a:Int)<(B.length:Int):=jo
          have HL:Hid ((O.set a (O[a]+1)).length=B.length/\(R.set a (-1)).length=B.length/\t=(m - (s+1)).toNat):=⟨by rw [List.length_set];exact g4,by rw [List.length_set];exact C,jo⟩;rw [a7];clear d g1 g2 g3 g4 p1 p3 P a7 a8;generalize O[a]=ok at *;clear Z p2;obtain ⟨bu,bv⟩:=bm;go_wp2;go_roundg t
          case measure=>omega
          case rel=>exact ⟨bp.out,O.set a (ok+1),R.set a (-1),s+1,HL.out.2.2,jo,jo,by go_num,bo.out,HL.out.1,HL.out.2.1,by rw [<-HL.out.2.2];exact a9.out.1,by rw [<-HL.out.2.2];exact a9.out.2,bn.out⟩
       .have bk:decide (s<m)=false:=jK aa;obtain rfl:s=m:=jo
        have HE:Hid (O=X/\BS w.heap.size wr (sl E O.length B.length) O):=by
         refine ⟨?_,J.1⟩;rw [<-hg,Int.sub_self];rfl
        have bq:=jp o;clear J hg M c o C;go_wp2;go_ret;refine ⟨_,rfl,Q,?_⟩;have:=HE.out.2;rw [bq.out] at this;rw [<-HE.out.1];exact this
   .have bf:decide (W>0)=false:=jK af;have ag:Hid (X=List.replicate B.length 0):=by show X=_;rw [HX.out,DJ,if_pos (by rw [<-HW.out];omega)]
    go_wp2;go_loopg [9,10] 0 (fun _ n i am=>w2=am/\n= .int .i64 0/\i= .int .i64 0)
    case atStart=>exact ⟨rfl,rfl,rfl⟩
    case round=>
     obtain ⟨rfl,rfl,rfl⟩:=hrel;have br:=jp V;clear V;go_wp2
     all_goals
      go_loopg [9] 0 (fun _ n am=>w2=am/\n= .int .i64 0)
      case atStart=>exact ⟨rfl,rfl⟩
      case round=>
       obtain ⟨rfl,rfl⟩:=hrel;go_wp2;go_ret;refine ⟨_,rfl,ad,?_⟩;rw [ag.out,ae];have:=br.out.1;rw [List.length_replicate] at this;exact this
end Go.Proofs.YtpapdkhjdelfcaaGreat
