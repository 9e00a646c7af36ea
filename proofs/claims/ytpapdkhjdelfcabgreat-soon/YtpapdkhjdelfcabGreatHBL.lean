import Derived.Test.YtpapdkhjdelfcabGreatHAJ
set_option maxRecDepth 100000
set_option maxHeartbeats 4000000
namespace Go.Proofs.YtpapdkhjdelfcabGreat
open Go.RowKit
def sumN (f:Nat→Nat):Nat→Nat
 |0=>0
 |l+1=>sumN f l+f l
theorem sumN_add (f g:Nat→Nat) (l:Nat):sumN (fun i=>f i+g i) l=sumN f l+sumN g l:=by
 induction l with
 |zero=>rfl
 |succ l ih=>simp only [sumN,ih];omega
theorem sumN_zero (f:Nat→Nat) (l:Nat) (h:∀i,i<l→f i=0):sumN f l=0:=by
 induction l with
 |zero=>rfl
 |succ l ih=>simp only [sumN];rw [ih (fun i hi=>h i (by omega)),h l (by omega)]
theorem sumN_one (k l:Nat) (hk:k<l):sumN (fun i=>if i=k then 1 else 0) l=1:=by
 induction l with
 |zero=>omega
 |succ l ih=>
  simp only [sumN];by_cases h:l=k
  ·subst h;rw [sumN_zero _ _ (fun i hi=>if_neg (by omega)),if_pos rfl]
  ·rw [ih (by omega),if_neg h]
theorem sumN_le (f g:Nat→Nat) (l:Nat) (h:∀i,i<l→f i≤g i):sumN f l≤sumN g l:=by
 induction l with
 |zero=>exact Nat.le_refl _
 |succ l ih=>simp only [sumN];have:=ih (fun i hi=>h i (by omega));have:=h l (by omega);omega
theorem sumN_lt (f g:Nat→Nat) (l:Nat) (h:∀i,i<l→f i≤g i) (k:Nat) (hk:k<l) (hlt:f k<g k):sumN f l<sumN g l:=by
 induction l with
 |zero=>omega
 |succ l ih=>
  simp only [sumN];by_cases hl:l=k
  ·subst hl;have:=sumN_le f g l (fun i hi=>h i (by omega));omega
  ·have:=ih (fun i hi=>h i (by omega)) (by omega);have:=h l (by omega);omega
theorem sumN_congr (f g:Nat→Nat) (l:Nat) (h:∀i,i<l→f i=g i):sumN f l=sumN g l:=by
 induction l with
 |zero=>rfl
 |succ l ih=>simp only [sumN];rw [ih (fun i hi=>h i (by omega)),h l (by omega)]
theorem len_sum (l:Nat) (S:List Int) (h:∀x∈S,∃i:Nat,i<l∧x=(i:Int)):S.length=sumN (fun i=>S.count (i:Int)) l:=by
 induction S with
 |nil=>simp;rw [sumN_zero _ _ (fun _ _=>by simp)]
 |cons x S ih=>
  obtain ⟨k,hk,rfl⟩:=h x List.mem_cons_self
  have he:sumN (fun i=>((k:Int)::S).count (i:Int)) l=sumN (fun i=>S.count (i:Int)+if i=k then 1 else 0) l:=by
   refine sumN_congr _ _ _ fun i _=>?_
   rw [List.count_cons];congr 1;by_cases hik:i=k
   ·subst hik;simp
   ·rw [if_neg hik,if_neg];simp;omega
  rw [he,sumN_add,sumN_one k l hk,←ih (fun x hx=>h x (List.mem_cons_of_mem _ hx)),List.length_cons]
theorem count_le_one (f:Nat→Nat) (n:Nat) (hf:∀i j,i<j→j<n→f i≠f j) (v:Nat):∀m,m≤n→((List.range m).map fun i=>((f i:Nat):Int)).count (v:Int)≤1:=by
 intro m
 induction m with
 |zero=>intro _;simp
 |succ m ih=>
  intro hm;rw [List.range_succ,List.map_append,List.count_append];by_cases hv:f m=v
  ·have h0:((List.range m).map fun i=>((f i:Nat):Int)).count (v:Int)=0:=by
    rw [List.count_eq_zero];intro hmem;obtain ⟨i,hi,e⟩:=List.mem_map.1 hmem;exact hf i m (List.mem_range.1 hi) (by omega) (by omega)
   rw [h0,Nat.zero_add]
   exact List.count_le_length
  ·have:=ih (by omega)
   have h1:(List.map (fun i=>((f i:Nat):Int)) [m]).count (v:Int)=0:=by
    rw [List.count_eq_zero];intro hmem;simp at hmem;omega
   omega
theorem onto (f:Nat→Nat) (n:Nat) (hf:∀i j,i<j→j<n→f i≠f j) (hr:∀i,i<n→f i<n) (v:Nat) (hv:v<n):∃i,i<n∧f i=v:=by
 have hl := len_sum n ((List.range n).map fun i => ((f i : Nat) : Int)) (by
   intro x hx
   obtain ⟨i, hi, rfl⟩ := List.mem_map.1 hx
   exact ⟨f i, hr i (List.mem_range.1 hi), rfl⟩)
 rw [List.length_map,List.length_range] at hl;by_cases h0:((List.range n).map fun i=>((f i:Nat):Int)).count (v:Int)=0
 ·have h1:=sumN_lt (fun i=>((List.range n).map fun i=>((f i:Nat):Int)).count (i:Int)) (fun _=>1) n (fun i _=>count_le_one f n hf i n (Nat.le_refl _)) v hv (by show List.count _ _<1;omega)
  have h2:∀l,sumN (fun _=>1) l=l:=fun l=>by
   induction l with
   |zero=>rfl
   |succ l ih=>simp only [sumN,ih]
  rw [h2] at h1;omega
 ·have hm:(v:Int)∈(List.range n).map fun i=>((f i:Nat):Int):=List.count_pos_iff.1 (by omega)
  obtain ⟨i,hi,e⟩:=List.mem_map.1 hm;exact ⟨i,List.mem_range.1 hi,by omega⟩
theorem stepOf_onto (n:Nat) (hn:2≤n) (hpr:∀d:Nat,2≤d→d<n→n % d≠0) (o s:Int) (ho:0≤o) (hs1:1≤s) (hs2:s<n) (v:Nat) (hv:v<n):∃i,i<n∧stepOf n (o,s) i=v:=by
 obtain ⟨o,rfl⟩:=Int.eq_ofNat_of_zero_le ho;obtain ⟨s,rfl⟩:=Int.eq_ofNat_of_zero_le (show 0≤s by omega)
 have hst:∀i,stepOf n ((o:Int),(s:Int)) i=(o+i * s) % n:=fun i=>by
  unfold stepOf;show (((o:Int)+(i:Int) * (s:Int)) % (n:Int)).toNat=_;have:((o:Int)+(i:Int) * (s:Int)) % (n:Int)=(((o+i * s) % n:Nat):Int):=by simp
  rw [this];rfl
 have hcop:Nat.Coprime n s:=by
  have h1:Nat.gcd n s ∣ n:=Nat.gcd_dvd_left n s;have h2:Nat.gcd n s≤s:=Nat.le_of_dvd (by omega) (Nat.gcd_dvd_right n s);have h3:0<Nat.gcd n s:=Nat.gcd_pos_of_pos_left _ (by omega);rcases Nat.lt_or_ge (Nat.gcd n s) 2 with h4|h4
  ·show Nat.gcd n s=1;omega
  ·exact absurd (Nat.mod_eq_zero_of_dvd h1) (hpr _ h4 (by omega))
 refine onto (stepOf n ((o:Int),(s:Int))) n ?_ (fun i _=>by rw [hst];exact Nat.mod_lt _ (by omega)) v hv;intro i j hij hj he;rw [hst,hst] at he;have h1:n ∣ (o+j * s) - (o+i * s):=Nat.dvd_of_mod_eq_zero (Nat.sub_mod_eq_zero_of_mod_eq he.symm)
 have h2:(o+j * s) - (o+i * s)=s * (j - i):=by
  rw [Nat.mul_sub,Nat.mul_comm s j,Nat.mul_comm s i];omega
 rw [h2] at h1;have h3:=Nat.le_of_dvd (by omega) (hcop.dvd_of_dvd_mul_left h1);omega
theorem freeF_some {S:List Int} (hpr:∀d:Nat,2≤d→d<S.length→S.length % d≠0) (hn:2≤S.length) (o s:Int) (ho:0≤o) (hs1:1≤s) (hs2:s<S.length) (v:Nat) (hv:v<S.length) (hf:S.getD v 0<0):∃k,freeF S (o,s)=some k∧k<S.length∧S.getD k 0<0:=by
 obtain ⟨i,hi,he⟩:=stepOf_onto S.length hn hpr o s ho hs1 hs2 v hv
 have h1:(freeF S (o,s)).isSome:=by
  unfold freeF;rw [List.find?_isSome];exact ⟨v,List.mem_map.2 ⟨i,List.mem_range.2 hi,he⟩,by simpa using hf⟩
 obtain ⟨k,hk⟩:=Option.isSome_iff_exists.1 h1;have h2:=List.find?_some hk;have h3:=List.mem_of_find?_eq_some hk;obtain ⟨j, -,rfl⟩:=List.mem_map.1 h3;refine ⟨_,hk,?_,by simpa using h2⟩;unfold stepOf;have:=Int.emod_lt_of_pos ((o,s).1+(j:Int) * (o,s).2) (show (0:Int)<(S.length:Int) by omega);have:=Int.emod_nonneg ((o,s).1+(j:Int) * (o,s).2) (show (S.length:Int)≠0 by omega);omega
def RowOK (l:Nat) (S:List Int):Prop:=∀x∈S,x= -1∨∃i:Nat,i<l∧x=(i:Int)
theorem RowOK.free {l:Nat} {S:List Int} (h:RowOK l S) (hlt:sumN (fun i=>S.count (i:Int)) l<S.length):∃v,v<S.length∧S.getD v 0<0:=by
 by_cases hm:(-1:Int)∈S
 ·obtain ⟨v,hv,e⟩:=List.mem_iff_getElem.1 hm;exact ⟨v,hv,by rw [List.getD_eq_getElem?_getD,List.getElem?_eq_getElem hv,e];decide⟩
 ·have:=len_sum l S (fun x hx=>(h x hx).resolve_left (fun e=>hm (e ▸ hx)));omega
def WayOK (n:Nat) (y:Int×Int):Prop:=0≤y.1∧1≤y.2∧y.2<n
theorem turn_count {W:List (Int×Int)} {l:Nat} {S:List Int} (hpr:∀d:Nat,2≤d→d<S.length→S.length % d≠0) (hn:2≤S.length) (h:RowOK l S) (hlt:sumN (fun i=>S.count (i:Int)) l<S.length) (i:Nat) (hi:i<l) (hW:WayOK S.length (W.getD i (0,0))):
  RowOK l (turnF W S i)∧∀j:Nat,(turnF W S i).count (j:Int)=S.count (j:Int)+if j=i then 1 else 0:=by
 obtain ⟨v,hv,hf⟩:=h.free hlt;obtain ⟨k,hk,hkl,hk0⟩:=freeF_some hpr hn (W.getD i (0,0)).1 (W.getD i (0,0)).2 hW.1 hW.2.1 hW.2.2 v hv hf;have ht:turnF W S i=S.set k i:=by unfold turnF;rw [hk]
 have hSk:S[k]= -1:=by
  rw [List.getD_eq_getElem?_getD,List.getElem?_eq_getElem hkl] at hk0;simp only [Option.getD_some] at hk0;rcases h _ (List.getElem_mem hkl) with h1|⟨m,_,h1⟩
  ·exact h1
  ·omega
 rw [ht];constructor
 ·intro x hx;rcases List.mem_or_eq_of_mem_set hx with h1|h1
  ·exact h x h1
  ·exact Or.inr ⟨i,hi,h1⟩
 ·intro j;rw [List.count_set hkl,hSk];have h1:((-1:Int)==(j:Int))=false:=by rw [beq_eq_false_iff_ne];omega
  rw [h1];by_cases hj:j=i
  ·subst hj;simp
  ·have h2:((i:Int)==(j:Int))=false:=by rw [beq_eq_false_iff_ne];omega
   rw [h2];simp [hj]
theorem roundTo_len' (W:List (Int×Int)) (sh:List Int) (r:Nat) (S:List Int) (n:Nat):(roundTo W sh r S n).length=S.length:=by
 induction n with
 |zero=>rfl
 |succ n ih=>simp only [roundTo];split;exact ih;rw [turnF_len];exact ih
theorem fillTo_len' (W:List (Int×Int)) (sh:List Int) (S:List Int) (n:Nat):(fillTo W sh S n).length=S.length:=by
 induction n with
 |zero=>rfl
 |succ n ih=>rw [fillTo,roundTo_len',ih]
def shN (sh:List Int) (i:Nat):Nat:=(sh.getD i 0).toNat
theorem round_count {W:List (Int×Int)} {sh:List Int} {n r:Nat} {S:List Int} (hS:S.length=n) (hpr:∀d:Nat,2≤d→d<n→n % d≠0) (hn:2≤n) (hW:∀i,i<sh.length→WayOK n (W.getD i (0,0))) (hsum:sumN (shN sh) sh.length=n) (h:RowOK sh.length S) (hc:∀j,j<sh.length→S.count (j:Int)=min (shN sh j) r):
  ∀m,m≤sh.length→RowOK sh.length (roundTo W sh r S m)∧∀j,j<sh.length→(roundTo W sh r S m).count (j:Int)=if j<m then min (shN sh j) (r+1) else min (shN sh j) r:=by
 intro m
 induction m with
 |zero=>intro _;exact ⟨h,fun j hj=>by rw [if_neg (by omega)];exact hc j hj⟩
 |succ m ih=>
  intro hm;obtain ⟨h1,h2⟩:=ih (by omega);have hlen:(roundTo W sh r S m).length=n:=by rw [roundTo_len',hS]
  simp only [roundTo];split
  ·rename_i hle;refine ⟨h1,fun j hj=>?_⟩;rw [h2 j hj];by_cases hjm:j=m
   ·subst hjm;rw [if_neg (by omega),if_pos (by omega)];have:shN sh j≤r:=by unfold shN;omega
    omega
   ·by_cases hj2:j<m
    ·rw [if_pos hj2,if_pos (by omega)]
    ·rw [if_neg hj2,if_neg (by omega)]
  ·rename_i hle;have hlt:r<shN sh m:=by unfold shN;omega
   have hs:sumN (fun i=>(roundTo W sh r S m).count (i:Int)) sh.length<(roundTo W sh r S m).length:=by
    rw [hlen,←hsum];refine sumN_lt _ _ _ (fun i hi=>?_) m (by omega) ?_
    ·show List.count _ _≤_;rw [h2 i hi];split <;>omega
    ·show List.count _ _<_;rw [h2 m (by omega),if_neg (by omega)];omega
   obtain ⟨t1,t2⟩:=turn_count (W:=W) (by rw [hlen];exact hpr) (by rw [hlen];exact hn) h1 hs m (by omega) (by rw [hlen];exact hW m (by omega));refine ⟨t1,fun j hj=>?_⟩;rw [t2 j,h2 j hj];by_cases hjm:j=m
   ·subst hjm;rw [if_neg (by omega),if_pos rfl,if_pos (by omega)];omega
   ·rw [if_neg hjm];by_cases hj2:j<m
    ·rw [if_pos hj2,if_pos (by omega)];omega
    ·rw [if_neg hj2,if_neg (by omega)];omega
theorem fill_count {W:List (Int×Int)} {sh:List Int} {n:Nat} (hpr:∀d:Nat,2≤d→d<n→n % d≠0) (hn:2≤n) (hW:∀i,i<sh.length→WayOK n (W.getD i (0,0))) (hsum:sumN (shN sh) sh.length=n):
  ∀r,RowOK sh.length (fillTo W sh (List.replicate n (-1)) r)∧∀j,j<sh.length→(fillTo W sh (List.replicate n (-1)) r).count (j:Int)=min (shN sh j) r:=by
 intro r
 induction r with
 |zero=>
  refine ⟨fun x hx=>Or.inl (List.eq_of_mem_replicate hx),fun j hj=>?_⟩;rw [fillTo,List.count_eq_zero.2]
  ·omega
  ·intro hm;have:=List.eq_of_mem_replicate hm;omega
 |succ r ih=>
  have:=round_count (by rw [fillTo_len',List.length_replicate]) hpr hn hW hsum ih.1 ih.2 sh.length (Nat.le_refl _);refine ⟨this.1,fun j hj=>?_⟩;rw [fillTo,this.2 j hj,if_pos hj]
theorem sumN_part (f:Nat→Nat) (l k:Nat) (hk:k<l):f k≤sumN f l:=by
 induction l with
 |zero=>omega
 |succ l ih=>
  simp only [sumN];by_cases h:k=l
  ·subst h;omega
  ·have:=ih (by omega);omega
theorem fill_all {W:List (Int×Int)} {sh:List Int} {n:Nat} (hpr:∀d:Nat,2≤d→d<n→n % d≠0) (hn:2≤n) (hW:∀i,i<sh.length→WayOK n (W.getD i (0,0))) (hsum:sumN (shN sh) sh.length=n):
  RowOK sh.length (fillTo W sh (List.replicate n (-1)) n)∧∀j,j<sh.length→(fillTo W sh (List.replicate n (-1)) n).count (j:Int)=shN sh j:=by
 obtain ⟨h1,h2⟩:=fill_count hpr hn hW hsum n;refine ⟨h1,fun j hj=>?_⟩;rw [h2 j hj];have:=sumN_part (shN sh) sh.length j hj;omega
theorem bestTo_spec (R:List Int) (n:Nat):((bestTo R n).2= -1∨((0≤(bestTo R n).1∧(bestTo R n).1<n)∧R.getD (bestTo R n).1.toNat 0=(bestTo R n).2))∧ -1≤(bestTo R n).2∧∀j,j<n→R.getD j 0≤(bestTo R n).2:=by
 induction n with
 |zero=>exact ⟨Or.inl rfl,Int.le_refl (-1),fun j hj=>by omega⟩
 |succ n ih=>
  obtain ⟨h1,h2,h3⟩:=ih;simp only [bestTo];split
  ·rename_i hlt;refine ⟨Or.inr ⟨⟨by simp only;omega,by simp only;omega⟩,by simp⟩,by simp only;omega,fun j hj=>?_⟩;show R.getD j 0≤R.getD n 0;by_cases hjn:j=n
   ·subst hjn;exact Int.le_refl _
   ·have:=h3 j (by omega);omega
  ·rename_i hlt;refine ⟨h1.imp id (fun h=>⟨⟨h.1.1,by omega⟩,h.2⟩),h2,fun j hj=>?_⟩;by_cases hjn:j=n
   ·subst hjn;omega
   ·exact h3 j (by omega)
theorem bestF_pos {R:List Int} (h:0<R.countP fun x=>decide (0<x)):0≤bestF R∧(bestF R).toNat<R.length∧0<R.getD (bestF R).toNat 0:=by
 obtain ⟨h1,h2,h3⟩:=bestTo_spec R R.length;obtain ⟨x,hx,hx0⟩:=List.countP_pos_iff.1 h;obtain ⟨j,hj,e⟩:=List.mem_iff_getElem.1 hx;have h4:=h3 j hj;rw [List.getD_eq_getElem?_getD,List.getElem?_eq_getElem hj,e] at h4;simp only [Option.getD_some] at h4;have h5:0<x:=by simpa using hx0
 rcases h1 with h1|⟨⟨h6,h7⟩,h8⟩
 ·omega
 ·unfold bestF;exact ⟨h6,by omega,by omega⟩
theorem sum_set (v:Int):∀(s:List Int) (k:Nat),k<s.length→(s.set k v).sum=s.sum - s.getD k 0+v
 |[],k,h=>by simp at h
 |x::s,0,_=>by simp;omega
 |x::s,k+1,h=>by
  have:=sum_set v s k (by simpa using h);simp only [List.set_cons_succ,List.sum_cons,List.getD_cons_succ,this];omega
theorem getD_set (s:List Int) (k j:Nat) (v:Int) (hk:k<s.length):(s.set k v).getD j 0=if j=k then v else s.getD j 0:=by
 rw [List.getD_eq_getElem?_getD,List.getD_eq_getElem?_getD,List.getElem?_set];by_cases h:j=k
 ·subst h;simp [hk]
 ·rw [if_neg (fun e=>h e.symm),if_neg h]
theorem giveF_spec:∀(k:Nat) (s r:List Int),s.length=r.length→k≤r.countP (fun x=>decide (0<x))→
  (giveF k s r).sum=s.sum+k∧(giveF k s r).length=s.length∧∀j,j<s.length→(giveF k s r).getD j 0=s.getD j 0∨((giveF k s r).getD j 0=s.getD j 0+1∧0<r.getD j 0)
 |0,s,r,_,_=>⟨by simp [giveF],rfl,fun j _=>Or.inl rfl⟩
 |k+1,s,r,hl,hk=>by
  obtain ⟨h1,h2,h3⟩:=bestF_pos (R:=r) (by omega);rw [giveF,if_neg (by omega)];generalize (bestF r).toNat=b at h2 h3;have hb:b<s.length:=by omega
  have hr:r[b]=r.getD b 0:=by rw [List.getD_eq_getElem?_getD,List.getElem?_eq_getElem h2];rfl
  have hcp:(r.set b (-1)).countP (fun x=>decide (0<x))=r.countP (fun x=>decide (0<x)) - 1:=by
   have h4:decide (0<r.getD b 0)=true:=decide_eq_true h3;rw [List.countP_set h2,hr,h4];simp
  obtain ⟨g1,g2,g3⟩:=giveF_spec k (s.set b (s.getD b 0+1)) (r.set b (-1)) (by simp [hl]) (by rw [hcp];omega);refine ⟨?_,by rw [g2];simp,fun j hj=>?_⟩
  ·rw [g1,sum_set _ _ _ hb];push_cast;omega
  ·have g4:=g3 j (by simpa using hj);rw [getD_set _ _ _ _ hb,getD_set _ _ _ _ h2] at g4;by_cases hjb:j=b
   ·subst hjb;rw [if_pos rfl,if_pos rfl] at g4;rcases g4 with g4|⟨_,g5⟩
    ·exact Or.inr ⟨g4,h3⟩
    ·omega
   ·rw [if_neg hjb,if_neg hjb] at g4;exact g4
theorem low_rem (M W:Int):∀B:List BK,(B.map fun b=>M * b.2).sum=W * (B.map fun b=>M * b.2 / W).sum+(B.map fun b=>M * b.2 % W).sum
 |[]=>by simp
 |b::B=>by
  have h1:=low_rem M W B;have h2:=Int.mul_ediv_add_emod (M * b.2) W;simp only [List.map_cons,List.sum_cons,h1,Int.mul_add];omega
theorem sum_mulc (M:Int):∀B:List BK,(B.map fun b=>M * b.2).sum=M * (B.map (·.2)).sum
 |[]=>by simp
 |b::B=>by simp only [List.map_cons,List.sum_cons,sum_mulc M B,Int.mul_add]
theorem rem_le (W:Int):∀R:List Int,(∀x∈R,0≤x∧x<W)→0≤R.sum∧R.sum≤W * (R.countP fun x=>decide (0<x))
 |[],_=>by simp
 |x::R,h=>by
  obtain ⟨h1,h2⟩:=rem_le W R (fun y hy=>h y (List.mem_cons_of_mem _ hy));obtain ⟨h3,h4⟩:=h x List.mem_cons_self;rw [List.sum_cons,List.countP_cons];refine ⟨by omega,?_⟩;by_cases hx:0<x
  ·simp only [hx,decide_true,if_true];push_cast;rw [Int.mul_add];omega
  ·simp only [hx,decide_false];simp;omega
theorem shares_spec (M:Int) (B:List BK) (hM:0≤M) (hw:∀b∈B,0≤b.2) (hW:1≤wSum B):
  (sharesF M B).sum=M∧(sharesF M B).length=B.length∧∀j,j<B.length→0≤(sharesF M B).getD j 0∧((sharesF M B).getD j 0=(lowF M B).getD j 0∨((sharesF M B).getD j 0=(lowF M B).getD j 0+1∧0<(remF M B).getD j 0)):=by
 have e1:=low_rem M (wSum B) B;rw [sum_mulc] at e1
 have e2 := rem_le (wSum B) (remF M B) (by
   intro x hx
   obtain ⟨b, hb, rfl⟩ := List.mem_map.1 hx
   exact ⟨Int.emod_nonneg _ (by omega), Int.emod_lt_of_pos _ (by omega)⟩)
 have e3:M * wSum B=wSum B * (lowF M B).sum+(remF M B).sum:=e1;have e4:wSum B * (M - (lowF M B).sum)=(remF M B).sum:=by rw [Int.mul_sub,Int.mul_comm (wSum B) M];omega
 have e5:0≤M - (lowF M B).sum:=by
  rcases Int.lt_or_le (M - (lowF M B).sum) 0 with h|h
  ·have:=Int.mul_neg_of_pos_of_neg (show 0<wSum B by omega) h;omega
  ·exact h
 have e6:M - (lowF M B).sum≤((remF M B).countP fun x=>decide (0<x):Nat):=by
  refine Int.le_of_mul_le_mul_left (a:=wSum B) ?_ (by omega);omega
 have g:=giveF_spec (M - (lowF M B).sum).toNat (lowF M B) (remF M B) (by simp [lowF,remF]) (by omega);have hs:sharesF M B=giveF (M - (lowF M B).sum).toNat (lowF M B) (remF M B):=by unfold sharesF;rw [if_neg (by omega)]
 rw [hs];refine ⟨by rw [g.1];omega,by rw [g.2.1];simp [lowF],fun j hj=>?_⟩;have h1:=g.2.2 j (by simpa [lowF] using hj)
 have h2:0≤(lowF M B).getD j 0:=by
  unfold lowF;rw [List.getD_eq_getElem?_getD,List.getElem?_map,List.getElem?_eq_getElem hj];exact Int.ediv_nonneg (Int.mul_nonneg hM (hw _ (List.getElem_mem hj))) (by omega)
 exact ⟨by omega,h1⟩
theorem sumN_list:∀(l:Nat) (L:List Int),l=L.length→(∀j,j<L.length→0≤L.getD j 0)→((sumN (shN L) l:Nat):Int)=L.sum:=by
 intro l
 induction l with
 |zero=>
  intro L hl _;have:L=[]:=List.length_eq_zero_iff.1 hl.symm;subst this;rfl
 |succ l ih=>
  intro L hl h;have hne:L≠[]:=fun e=>by subst e;simp at hl
  have hL:=List.dropLast_concat_getLast hne;have hlen:L.dropLast.length=l:=by simp;omega
  have hget:∀j,j<l→L.getD j 0=L.dropLast.getD j 0:=fun j hj=>by
   conv=>lhs;rw [←hL]
   rw [List.getD_eq_getElem?_getD,List.getElem?_append_left (by omega),List.getD_eq_getElem?_getD]
  have hlast:L.getD l 0=L.getLast hne:=by
   conv=>lhs;rw [←hL]
   rw [List.getD_eq_getElem?_getD,List.getElem?_append_right (by omega),hlen];simp
  have hsum:L.sum=L.dropLast.sum+L.getLast hne:=by
   conv=>lhs;rw [←hL]
   simp
  have h0:=ih L.dropLast hlen.symm (fun j hj=>by rw [←hget j (by omega)];exact h j (by omega));simp only [sumN];rw [sumN_congr (shN L) (shN L.dropLast) l (fun i hi=>by unfold shN;rw [hget i hi])];have h1:=h l (by omega);have h2:shN L l=(L.getD l 0).toNat:=rfl;rw [hsum,←h0,←hlast,h2];push_cast;omega
end Go.Proofs.YtpapdkhjdelfcabGreat
