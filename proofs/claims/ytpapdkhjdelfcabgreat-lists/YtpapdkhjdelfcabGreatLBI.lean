import Derived.Test.YtpapdkhjdelfcabGreatLAD
import Derived.Deep.QuietTactic
import Derived.BigQuiet
import Derived.Deep.RegionWith
namespace Go.Proofs.YtpapdkhjdelfcabGreat
open Go.RowKit
set_option maxRecDepth 100000
set_option maxHeartbeats 4000000
def CE (f:Nat→Nat):Nat→Nat
 |0=>0
 |l+1=>CE f l+f l
theorem Rj (f g:Nat→Nat) (l:Nat):CE (fun i=>f i+g i) l=CE f l+CE g l:=by
 induction l with
 |zero=>rfl
 |succ l ih=>simp only [CE,ih];omega
theorem Pf (f:Nat→Nat) (l:Nat) (h:∀i,i<l→f i=0):CE f l=0:=by
 induction l with
 |zero=>rfl
 |succ l ih=>simp only [CE];rw [ih (fun i hi=>h i (by omega)),h l (by omega)]
theorem Tz (k l:Nat) (hk:k<l):CE (fun i=>if i=k then 1 else 0) l=1:=by
 induction l with
 |zero=>omega
 |succ l ih=>
  simp only [CE];by_cases h:l=k
  ·subst h;rw [Pf _ _ (fun i hi=>if_neg (by omega)),if_pos rfl]
  ·rw [ih (by omega),if_neg h]
theorem Ui (f g:Nat→Nat) (l:Nat) (h:∀i,i<l→f i≤g i):CE f l≤CE g l:=by
 induction l with
 |zero=>exact jH _
 |succ l ih=>simp only [CE];have:=ih (fun i hi=>h i (by omega));have:=h l (by omega);omega
theorem SX (f g:Nat→Nat) (l:Nat) (h:∀i,i<l→f i≤g i) (k:Nat) (hk:k<l) (hlt:f k<g k):CE f l<CE g l:=by
 induction l with
 |zero=>omega
 |succ l ih=>
  simp only [CE];by_cases hl:l=k
  ·subst hl;have:=Ui f g l (fun i hi=>h i (by omega));omega
  ·have:=ih (fun i hi=>h i (by omega)) (by omega);have:=h l (by omega);omega
theorem QP (f g:Nat→Nat) (l:Nat) (h:∀i,i<l→f i=g i):CE f l=CE g l:=by
 induction l with
 |zero=>rfl
 |succ l ih=>simp only [CE];rw [ih (fun i hi=>h i (by omega)),h l (by omega)]
theorem VZ (l:Nat) (S:List Int) (h:∀x∈S,∃i:Nat,i<l∧x=(i:Int)):S.length=CE (fun i=>S.count (i:Int)) l:=by
 induction S with
 |nil=>simp;rw [Pf _ _ (fun _ _=>by simp)]
 |cons x S ih=>
  obtain ⟨k,hk,rfl⟩:=h x List.mem_cons_self
  have he:CE (fun i=>((k:Int)::S).count (i:Int)) l=CE (fun i=>S.count (i:Int)+if i=k then 1 else 0) l:=by
   refine QP _ _ _ fun i _=>?_
   rw [List.count_cons];congr 1;by_cases hik:i=k
   ·subst hik;simp
   ·rw [if_neg hik,if_neg];simp;omega
  rw [he,Rj,Tz k l hk,←ih (fun x hx=>h x (jW _ hx)),List.length_cons]
theorem Qz (f:Nat→Nat) (n:Nat) (hf:∀i j,i<j→j<n→f i≠f j) (v:Nat):∀m,m≤n→((List.range m).map fun i=>((f i:Nat):Int)).count (v:Int)≤1:=by
 intro m
 induction m with
 |zero=>intro _;simp
 |succ m ih=>
  intro hm;rw [List.range_succ,List.map_append,List.count_append];by_cases hv:f m=v
  ·have h0:((List.range m).map fun i=>((f i:Nat):Int)).count (v:Int)=0:=by
    rw [List.count_eq_zero];intro hmem;obtain ⟨i,hi,e⟩:=List.mem_map.1 hmem;exact hf i m (List.mem_range.1 hi) (by omega) (by omega)
   rw [h0,Nat.zero_add]
   exact List.count_le_length
  ·have:=ih (by omega)
   have h1:(List.map (fun i=>((f i:Nat):Int)) [m]).count (v:Int)=0:=by
    rw [List.count_eq_zero];intro hmem;simp at hmem;omega
   omega
theorem Uu (f:Nat→Nat) (n:Nat) (hf:∀i j,i<j→j<n→f i≠f j) (hr:∀i,i<n→f i<n) (v:Nat) (hv:v<n):∃i,i<n∧f i=v:=by
 have hl := VZ n ((List.range n).map fun i => ((f i : Nat) : Int)) (by
   intro x hx
   obtain ⟨i, hi, rfl⟩ := List.mem_map.1 hx
   exact ⟨f i, hr i (List.mem_range.1 hi), rfl⟩)
 rw [je,List.length_range] at hl;by_cases h0:((List.range n).map fun i=>((f i:Nat):Int)).count (v:Int)=0
 ·have h1:=SX (fun i=>((List.range n).map fun i=>((f i:Nat):Int)).count (i:Int)) (fun _=>1) n (fun i _=>Qz f n hf i n (jH _)) v hv (by show List.count _ _<1;omega)
  have h2:∀l,CE (fun _=>1) l=l:=fun l=>by
   induction l with
   |zero=>rfl
   |succ l ih=>simp only [CE,ih]
  rw [h2] at h1;omega
 ·have hm:(v:Int)∈(List.range n).map fun i=>((f i:Nat):Int):=jb.1 (by omega)
  obtain ⟨i,hi,e⟩:=List.mem_map.1 hm;exact ⟨i,List.mem_range.1 hi,by omega⟩
theorem Tc (n:Nat) (hn:2≤n) (hpr:∀d:Nat,2≤d→d<n→n % d≠0) (o s:Int) (ho:0≤o) (hs1:1≤s) (hs2:s<n) (v:Nat) (hv:v<n):∃i,i<n∧A0 n (o,s) i=v:=by
 obtain ⟨o,rfl⟩:=jM ho;obtain ⟨s,rfl⟩:=jM (show 0≤s by omega)
 have hst:∀i,A0 n ((o:Int),(s:Int)) i=(o+i * s) % n:=fun i=>by
  unfold A0;show (((o:Int)+(i:Int) * (s:Int)) % (n:Int)).toNat=_;have:((o:Int)+(i:Int) * (s:Int)) % (n:Int)=(((o+i * s) % n:Nat):Int):=by simp
  rw [this];rfl
 have hcop:Nat.Coprime n s:=by
  have h1:Nat.gcd n s ∣ n:=Nat.gcd_dvd_left n s;have h2:Nat.gcd n s≤s:=Nat.le_of_dvd (by omega) (Nat.gcd_dvd_right n s);have h3:0<Nat.gcd n s:=Nat.gcd_pos_of_pos_left _ (by omega);rcases Nat.lt_or_ge (Nat.gcd n s) 2 with h4|h4
  ·show Nat.gcd n s=1;omega
  ·exact absurd (Nat.mod_eq_zero_of_dvd h1) (hpr _ h4 (by omega))
 refine Uu (A0 n ((o:Int),(s:Int))) n ?_ (fun i _=>by rw [hst];exact Nat.mod_lt _ (by omega)) v hv;intro i j hij hj he;rw [hst,hst] at he;have h1:n ∣ (o+j * s) - (o+i * s):=Nat.dvd_of_mod_eq_zero (Nat.sub_mod_eq_zero_of_mod_eq he.symm)
 have h2:(o+j * s) - (o+i * s)=s * (j - i):=by
  rw [Nat.mul_sub,Nat.mul_comm s j,Nat.mul_comm s i];omega
 rw [h2] at h1;have h3:=Nat.le_of_dvd (by omega) (hcop.dvd_of_dvd_mul_left h1);omega
def LB (l:Nat) (S:List Int):Prop:=∀x∈S,x= -1∨∃i:Nat,i<l∧x=(i:Int)
theorem KT (R:List Int) (n:Nat):((A5 R n).2= -1∨((0≤(A5 R n).1∧(A5 R n).1<n)∧R.getD (A5 R n).1.toNat 0=(A5 R n).2))∧ -1≤(A5 R n).2∧∀j,j<n→R.getD j 0≤(A5 R n).2:=by
 induction n with
 |zero=>exact ⟨Or.inl rfl,Int.le_refl (-1),fun j hj=>by omega⟩
 |succ n ih=>
  obtain ⟨h1,h2,h3⟩:=ih;simp only [A5];split
  ·rename_i hlt;refine ⟨Or.inr ⟨⟨by simp only;omega,by simp only;omega⟩,by simp⟩,by simp only;omega,fun j hj=>?_⟩;show R.getD j 0≤R.getD n 0;by_cases hjn:j=n
   ·subst hjn;exact Int.le_refl _
   ·have:=h3 j (by omega);omega
  ·rename_i hlt;refine ⟨h1.imp id (fun h=>⟨⟨h.1.1,by omega⟩,h.2⟩),h2,fun j hj=>?_⟩;by_cases hjn:j=n
   ·subst hjn;omega
   ·exact h3 j (by omega)
theorem P6 {R:List Int} (h:0<R.countP fun x=>decide (0<x)):0≤C1 R∧(C1 R).toNat<R.length∧0<R.getD (C1 R).toNat 0:=by
 obtain ⟨h1,h2,h3⟩:=KT R R.length;obtain ⟨x,hx,hx0⟩:=List.countP_pos_iff.1 h;obtain ⟨j,hj,e⟩:=List.mem_iff_getElem.1 hx;have h4:=h3 j hj;rw [jV,jG hj,e] at h4;simp only [Option.getD_some] at h4;have h5:0<x:=by simpa using hx0
 rcases h1 with h1|⟨⟨h6,h7⟩,h8⟩
 ·omega
 ·unfold C1;exact ⟨h6,by omega,by omega⟩
theorem LP (v:Int):∀(s:List Int) (k:Nat),k<s.length→(s.set k v).sum=s.sum - s.getD k 0+v
 |[],k,h=>by simp at h
 |x::s,0,_=>by simp;omega
 |x::s,k+1,h=>by
  have:=LP v s k (by simpa using h);simp only [List.set_cons_succ,List.sum_cons,List.getD_cons_succ,this];omega
theorem KZ (s:List Int) (k j:Nat) (v:Int) (hk:k<s.length):(s.set k v).getD j 0=if j=k then v else s.getD j 0:=by
 rw [jV,jV,List.getElem?_set];by_cases h:j=k
 ·subst h;simp [hk]
 ·rw [if_neg (fun e=>h e.symm),if_neg h]
theorem Np:∀(k:Nat) (s r:List Int),s.length=r.length→k≤r.countP (fun x=>decide (0<x))→
  (CI k s r).sum=s.sum+k∧(CI k s r).length=s.length∧∀j,j<s.length→(CI k s r).getD j 0=s.getD j 0∨((CI k s r).getD j 0=s.getD j 0+1∧0<r.getD j 0)
 |0,s,r,_,_=>⟨by simp [CI],rfl,fun j _=>Or.inl rfl⟩
 |k+1,s,r,hl,hk=>by
  obtain ⟨h1,h2,h3⟩:=P6 (R:=r) (by omega);rw [CI,if_neg (by omega)];generalize (C1 r).toNat=b at h2 h3;have hb:b<s.length:=by omega
  have hr:r[b]=r.getD b 0:=by rw [jV,jG h2];rfl
  have hcp:(r.set b (-1)).countP (fun x=>decide (0<x))=r.countP (fun x=>decide (0<x)) - 1:=by
   have h4:decide (0<r.getD b 0)=true:=jL h3;rw [List.countP_set h2,hr,h4];simp
  obtain ⟨g1,g2,g3⟩:=Np k (s.set b (s.getD b 0+1)) (r.set b (-1)) (by simp [hl]) (by rw [hcp];omega);refine ⟨?_,by rw [g2];simp,fun j hj=>?_⟩
  ·rw [g1,LP _ _ _ hb];push_cast;omega
  ·have g4:=g3 j (by simpa using hj);rw [KZ _ _ _ _ hb,KZ _ _ _ _ h2] at g4;by_cases hjb:j=b
   ·subst hjb;rw [if_pos rfl,if_pos rfl] at g4;rcases g4 with g4|⟨_,g5⟩
    ·exact Or.inr ⟨g4,h3⟩
    ·omega
   ·rw [if_neg hjb,if_neg hjb] at g4;exact g4
theorem K7 (M W:Int):∀B:List BK,(B.map fun b=>M * b.2).sum=W * (B.map fun b=>M * b.2 / W).sum+(B.map fun b=>M * b.2 % W).sum
 |[]=>by simp
 |b::B=>by
  have h1:=K7 M W B;have h2:=Int.mul_ediv_add_emod (M * b.2) W;simp only [List.map_cons,List.sum_cons,h1,Int.mul_add];omega
theorem LY (M:Int):∀B:List BK,(B.map fun b=>M * b.2).sum=M * (B.map (·.2)).sum
 |[]=>by simp
 |b::B=>by simp only [List.map_cons,List.sum_cons,LY M B,Int.mul_add]
theorem Me (W:Int):∀R:List Int,(∀x∈R,0≤x∧x<W)→0≤R.sum∧R.sum≤W * (R.countP fun x=>decide (0<x))
 |[],_=>by simp
 |x::R,h=>by
  obtain ⟨h1,h2⟩:=Me W R (fun y hy=>h y (jW _ hy));obtain ⟨h3,h4⟩:=h x List.mem_cons_self;rw [List.sum_cons,List.countP_cons];refine ⟨by omega,?_⟩;by_cases hx:0<x
  ·simp only [hx,decide_true,if_true];push_cast;rw [Int.mul_add];omega
  ·simp only [hx,decide_false];simp;omega
theorem Ma (M:Int) (B:List BK) (hM:0≤M) (hw:∀b∈B,0≤b.2) (hW:1≤As B):
  (CJ M B).sum=M∧(CJ M B).length=B.length∧∀j,j<B.length→0≤(CJ M B).getD j 0∧((CJ M B).getD j 0=(Bi M B).getD j 0∨((CJ M B).getD j 0=(Bi M B).getD j 0+1∧0<(CF M B).getD j 0)):=by
 have e1:=K7 M (As B) B;rw [LY] at e1
 have e2 := Me (As B) (CF M B) (by
   intro x hx
   obtain ⟨b, hb, rfl⟩ := List.mem_map.1 hx
   exact ⟨Int.emod_nonneg _ (by omega), Int.emod_lt_of_pos _ (by omega)⟩)
 have e3:M * As B=As B * (Bi M B).sum+(CF M B).sum:=e1;have e4:As B * (M - (Bi M B).sum)=(CF M B).sum:=by rw [Int.mul_sub,Int.mul_comm (As B) M];omega
 have e5:0≤M - (Bi M B).sum:=by
  rcases Int.lt_or_le (M - (Bi M B).sum) 0 with h|h
  ·have:=Int.mul_neg_of_pos_of_neg (show 0<As B by omega) h;omega
  ·exact h
 have e6:M - (Bi M B).sum≤((CF M B).countP fun x=>decide (0<x):Nat):=by
  refine Int.le_of_mul_le_mul_left (a:=As B) ?_ (by omega);omega
 have g:=Np (M - (Bi M B).sum).toNat (Bi M B) (CF M B) (by simp [Bi,CF]) (by omega);have hs:CJ M B=CI (M - (Bi M B).sum).toNat (Bi M B) (CF M B):=by unfold CJ;rw [if_neg (by omega)]
 rw [hs];refine ⟨by rw [g.1];omega,by rw [g.2.1];simp [Bi],fun j hj=>?_⟩;have h1:=g.2.2 j (by simpa [Bi] using hj)
 have h2:0≤(Bi M B).getD j 0:=by
  unfold Bi;rw [jV,List.getElem?_map,jG hj];exact Int.ediv_nonneg (Int.mul_nonneg hM (hw _ (jJ hj))) (by omega)
 exact ⟨by omega,h1⟩
def DJ (m:Int) (B:List BK):List Int:=if As B<1 then List.replicate B.length 0 else CJ m B
theorem Uw (R:List Int) (n:Nat):((A5 R n).1= -1∧(A5 R n).2= -1)∨∃k:Nat,k<n∧(A5 R n).1=k∧(A5 R n).2=R.getD k 0∧0≤R.getD k 0:=by
 induction n with
 |zero=>exact Or.inl ⟨rfl,rfl⟩
 |succ n ih=>
  simp only [A5];split
  ·rename_i hlt;refine Or.inr ⟨n,by omega,rfl,rfl,?_⟩;have:=(KT R n).2.1;omega
  ·rcases ih with h|⟨k,h1,h2⟩
   ·exact Or.inl h
   ·exact Or.inr ⟨k,by omega,h2⟩
theorem Sw {m wt W:Int} (hm1:0≤m) (hm2:m≤300) (hw1:0≤wt) (hw2:wt≤6) (hW:0<W):∃q x y:Int,q=m * wt / W∧x=m * wt∧(wrap64 (m * wt)=x∧IntKind.i64.wrap (m * wt)=x)∧(wrap64 (q * W)=y∧IntKind.i64.wrap (q * W)=y)∧(wrap64 (x.tdiv W)=q∧IntKind.i64.wrap (x.tdiv W)=q)∧(wrap64 (x - y)=m * wt % W∧IntKind.i64.wrap (x - y)=m * wt % W)∧0≤q∧q≤1800:=by
 have a1:0≤m * wt:=Int.mul_nonneg hm1 hw1;have a2:m * wt≤300 * 6:=Int.mul_le_mul hm2 hw2 hw1 (by omega);have a3:0≤m * wt / W:=Int.ediv_nonneg a1 (by omega);have a4:m * wt / W≤m * wt:=Int.ediv_le_self _ a1;have a5:m * wt / W * W≤m * wt:=Int.ediv_mul_le _ (by omega);have a6:0≤m * wt / W * W:=Int.mul_nonneg a3 (by omega);have a7:(m * wt).tdiv W=m * wt / W:=Int.tdiv_eq_ediv_of_nonneg a1;have a8:m * wt % W=m * wt - m * wt / W * W:=by have:=Int.mul_ediv_add_emod (m * wt) W;rw [Int.mul_comm W] at this;omega
 refine ⟨m * wt / W,m * wt,m * wt / W * W,rfl,rfl,?_⟩;rw [a7,a8];generalize m * wt / W * W=y at *;generalize m * wt / W=z at *;generalize m * wt=x at *;unfold wrap64;simp only [IntKind.wrap_i64];omega
theorem RZ (M:Int) (B:List BK) (hW:1≤As B):(Bi M B).sum≤M∧(M - (Bi M B).sum).toNat≤(CF M B).countP (fun x=>decide (0<x)):=by
 have e1:=K7 M (As B) B;rw [LY] at e1
 have e2 := Me (As B) (CF M B) (by
   intro x hx
   obtain ⟨b, hb, rfl⟩ := List.mem_map.1 hx
   exact ⟨Int.emod_nonneg _ (by omega), Int.emod_lt_of_pos _ (by omega)⟩)
 have e3:M * As B=As B * (Bi M B).sum+(CF M B).sum:=e1;have e4:As B * (M - (Bi M B).sum)=(CF M B).sum:=by rw [Int.mul_sub,Int.mul_comm (As B) M];omega
 have e5:0≤M - (Bi M B).sum:=by
  rcases Int.lt_or_le (M - (Bi M B).sum) 0 with h|h
  ·have:=Int.mul_neg_of_pos_of_neg (show 0<As B by omega) h;omega
  ·exact h
 have e6:M - (Bi M B).sum≤((CF M B).countP fun x=>decide (0<x):Nat):=by
  refine Int.le_of_mul_le_mul_left (a:=As B) ?_ (by omega);omega
 exact ⟨by omega,by omega⟩
theorem Qn {t:Nat} {O R X:List Int} {k:Nat} (hk:C1 R=(k:Int)) (hkO:k<O.length) (hkR:k<R.length) (hp:0<R[k]) (hg:CI (t+1) O R=X) (hc:t+1≤R.countP (fun x=>decide (0<x))):CI t (O.set k (O[k]+1)) (R.set k (-1))=X∧t≤(R.set k (-1)).countP (fun x=>decide (0<x)):=by
 rw [CI,hk,if_neg (by omega),Int.toNat_natCast,jV,jG hkO] at hg;refine ⟨hg,?_⟩;have h4:decide (0<R[k])=true:=jL hp;rw [List.countP_set hkR,h4];simp;omega
theorem BS.made {base:Nat} {w:World} {g n:Nat} (h:w.ownsRow base 3 1 (.slice (some ⟨g,0,none⟩) n n) n (madeCells #[Value.int .i64 0] n).toList):BS base w (sl g (List.replicate n (0:Int)).length n) (List.replicate n 0):=by
 unfold BS sl;rw [List.length_replicate,List.map_replicate,←toList_madeCells_one];exact h
def T9 (w:World) (B:List BK) (m:Int) (ga gb:Nat) (r:Nat) (n i:Value) (wr:World):Prop:=Aa w wr∧∃(k:Nat) (O R:List Int) (s:Int),r=B.length - k∧k≤B.length∧i= .int .i64 k∧n= .int .i64 s∧Cj w.heap.size ga gb B.length B.length wr O R∧O.length=B.length∧R.length=B.length∧
 O.take k=(Bi m B).take k∧R.take k=(CF m B).take k∧s=((Bi m B).take k).sum∧0≤s∧s≤1800 * k∧∀x∈O,0≤x∧x≤1800
def N5 (w:World) (B:List BK) (m:Int) (X:List Int) (ga gb:Nat) (r:Nat) (n:Value) (wr:World):Prop:=Aa w wr∧∃(O R:List Int) (s:Int),r=(m - s).toNat∧0≤s∧s≤m∧n= .int .i64 s∧Cj w.heap.size ga gb B.length B.length wr O R∧O.length=B.length∧R.length=B.length∧CI (m - s).toNat O R=X∧(m - s).toNat≤R.countP (fun x=>decide (0<x))∧∀x∈O,0≤x∧x≤2100 - (m - s)
theorem Ug (B:List BK) (v:Value) (m:Int) (w:World) (hP:Am w v B) (hB:AL B) (hm1:0≤m) (hm2:m≤300):
  Calls Tryz.prog 228 #[v,.int .i64 m] w (Nq w (DJ m B)):=by
 obtain ⟨i0,hi,hz0,hz1,hz2⟩:=info_parts Tryz.infoInt;obtain ⟨h8,hall⟩:=hB;obtain ⟨ao,cap,rfl,hc⟩:=hP.open;obtain ⟨W,hW⟩:∃W,W=As B:=⟨_,rfl⟩;have HW:=jp hW;obtain ⟨X,hX⟩:∃X,X=DJ m B:=⟨_,rfl⟩;rw [←hX];have HX:=jp hX;clear hW hX;go_enter Tryz.func228,Tryz.ntmps228;go_wp2;go_loopg [5,6] B.length (fun r s n wr=>w=wr∧∃k:Nat,r=B.length - k∧k≤B.length∧n= .int .i64 k∧s= .int .i64 (As (B.take k)))
 case atStart=>exact ⟨rfl,0,by omega,by omega,rfl,rfl⟩
 case round=>
  obtain ⟨rfl,k,hr,hk,rfl,rfl⟩:=hrel;have hbd:=Kq B (fun b hb=>(hall b hb).2.2) k;have hk8:k≤8:=by omega
  by_cases hlt:k<B.length
  ·obtain ⟨g,rfl,c0,c1⟩:=hc k hlt;have HS:Hid (As (B.take (k+1))=As (B.take k)+B[k].2):=Lc B k hlt;have hw:=(hall _ (jJ hlt)).2.2;clear hc;generalize B[k].1=idk at *;generalize B[k].2=wk at *;generalize As (B.take k)=sk at *;obtain ⟨hw1,hw2⟩:=hw;obtain ⟨hb1,hb2⟩:=hbd;go_wp2;go_roundg (B.length - (k+1))
   case measure=>omega
   case rel=>exact ⟨rfl,k+1,rfl,by omega,by go_num,by rw [HS.out]⟩
  ·have HE:As (B.take k)=W:=by rw [jR (by omega)];exact HW.out.symm
   rw [HE] at hbd ⊢;clear HE;have hb8:B.length≤8:=h8;go_wp2_with (first|(at_make;refine wpList_make_full _ rfl _ _ 59 rfl w.heap.size 3 i0 (.int .i64 0) 1 Tryz.underlying59 hi hz0 hz1 _ _ _ _ B.length rfl rfl rfl rfl ?b2 ?b3 ?b4 ?_))
   case b2=>first|omega|(rw [hz2];omega)
   case b3=>unfold maxLen;omega
   case b4=>exact jH _
   intro w1 hown1 hg1;have hb1:Aa w w1:=(jD _).grown hg1 (fun g hg=>by cases hg);have hlt1:w.heap.size<w1.heap.size:=(World.ownsRow.lt hown1 _ rfl).2;have ho1:=BS.made hown1;clear hg1 hown1;go_wp2_with (first|(at_make;refine wpList_make_full _ rfl _ _ 59 rfl w.heap.size 3 i0 (.int .i64 0) 1 Tryz.underlying59 hi hz0 hz1 _ _ _ _ B.length rfl rfl rfl rfl ?c2 ?c3 ?c4 ?_))
   case c2=>first|omega|(rw [hz2];omega)
   case c3=>unfold maxLen;omega
   case c4=>omega
   intro w2 hown2 hg2;have hb2:Aa w1 w2:=(jD _).grown hg2 (fun g hg=>by cases hg);have ho2:=BS.made hown2;have hT0:Cj w.heap.size w.heap.size w1.heap.size B.length B.length w2 (List.replicate B.length 0) (List.replicate B.length 0):=⟨ho1.later hb2,ho2,by omega⟩;have hbb:Aa w w2:=hb1.trans hb2;clear hg2 hown2 ho1 ho2 hb1 hb2 hlt1;generalize w1.heap.size=gb at *;generalize hga:w.heap.size=ga at *;by_cases hW0:0<W
   ·have hWb:decide (W>0)=true:=jL hW0;have HX2:Hid (X=CJ m B):=by show X=_;rw [HX.out,DJ,if_neg (by rw [←HW.out];omega)]
    go_wp2;go_loopg [9,10] B.length (T9 w B m ga gb)
    case atStart=>exact ⟨hbb,0,_,_,0,by omega,by omega,rfl,rfl,by rw [hga];exact hT0,by simp,by simp,by simp,by simp,by simp,by omega,by omega,fun x hx=>by have:=List.eq_of_mem_replicate hx;omega⟩
    case round=>
     clear hT0 hbb;obtain ⟨hb,k,O,R,s,hr,hk,rfl,rfl,hT,hOl,hRl,hO,hR,hs,hs0,hs1,hbd2⟩:=hrel;have hk8:k≤8:=by omega
     by_cases hlt:k<B.length
     ·obtain ⟨g,rfl,c0,c1⟩:=hc k hlt;have c1':=hb.cell c1;obtain ⟨hw1,hw2⟩:=(hall _ (jJ hlt)).2.2;obtain ⟨q,x,y,hq,hx,⟨m1,m2⟩,⟨y1,y2⟩,⟨q1,q2⟩,⟨z1,z2⟩,hq0,hq1⟩:=Sw hm1 hm2 hw1 hw2 hW0
      have HA:Hid ((Bi m B).take (k+1)=(Bi m B).take k++[q]):=by
       show List.take _ _=_;rw [jQ (by simp [Bi];exact hlt),hq];simp only [Bi,List.getElem_map,HW.out]
      have HB:Hid ((CF m B).take (k+1)=(CF m B).take k++[m * B[k].2 % W]):=by
       show List.take _ _=_;rw [jQ (by simp [CF];exact hlt)];simp only [CF,List.getElem_map,HW.out]
      clear hq hc c0 hx;generalize B[k].2=wk at *;generalize m * wk % W=z at *;have HOR:Hid (O.length=B.length∧R.length=B.length∧O.take k=(Bi m B).take k∧R.take k=(CF m B).take k∧s=((Bi m B).take k).sum∧∀x∈O,0≤x∧x≤1800):=⟨hOl,hRl,hO,hR,hs,hbd2⟩;have hT':=hT.set1 k q;have d1:∃u,wr.cell? ⟨ga,k,none⟩=some u:=⟨_,(World.ownsRow.cellAt hT.1 k (by omega)).trans (by rw [List.getElem?_map,jG (by omega)];rfl)⟩;obtain ⟨u1,d1⟩:=d1;have e1:=World.ownsRow.frozenAt hT.1 k;clear hT hOl hRl hO hR hs hbd2;have hWz:(W==0)=false:=by rw [jI];omega
      go_wp2_with fail;have hbw:Aa w (wr.setCell ⟨ga,k,none⟩ (.int .i64 q)):=hb.step_set (by rw [hga];exact jH _) _;have f1:(wr.setCell ⟨ga,k,none⟩ (.int .i64 q)).cell? ⟨ga,k,none⟩=some (.int .i64 q):=Bc d1;have b2:=hbw.cell c1;have d2:∃u,(wr.setCell ⟨ga,k,none⟩ (.int .i64 q)).cell? ⟨gb,k,none⟩=some u:=⟨_,(World.ownsRow.cellAt hT'.2.1 k (by have:=HOR.out.2.1;omega)).trans (by rw [List.getElem?_map,jG (by have:=HOR.out.2.1;omega)];rfl)⟩;obtain ⟨u2,d2⟩:=d2;have e2:=World.ownsRow.frozenAt hT'.2.1 k;have hgn:gb≠ga:=hT'.2.2.symm;have HT':=jp hT';have hgb:w.heap.size≤gb:=(World.ownsRow.lt hT'.2.1 gb rfl).1;clear hT' d1 e1 hb c1' m1;generalize wr.setCell ⟨ga,k,none⟩ (.int .i64 q)=wq at *;go_region_with fail
      all_goals
       go_wp2_with fail;go_roundg (B.length - (k+1))
       case measure=>omega
       case rel=>
        refine ⟨Aa.trans (hbw.step_set (p:=⟨gb,k,none⟩) hgb (.int .i64 z)) (by solve_by_elim [jA,jB,jC,jD,jE]),k+1,O.set k q,R.set k z,s+q,rfl,by omega,by go_num,by go_num,(HT'.out.set2 k z).later (by solve_by_elim [jA,jB,jC,jD,jE]),by rw [List.length_set];exact HOR.out.1,by rw [List.length_set];exact HOR.out.2.1,?_,?_,?_,by omega,by omega,?_⟩
        ·rw [jQ (by rw [List.length_set,HOR.out.1];exact hlt),List.take_set_of_le (jH k),List.getElem_set_self,HOR.out.2.2.1,HA.out]
        ·rw [jQ (by rw [List.length_set,HOR.out.2.1];exact hlt),List.take_set_of_le (jH k),List.getElem_set_self,HOR.out.2.2.2.1,HB.out]
        ·rw [HA.out,HOR.out.2.2.2.2.1];simp
        ·intro x hx;rcases List.mem_or_eq_of_mem_set hx with h|h
         ·exact HOR.out.2.2.2.2.2 x h
         ·omega
     ·obtain rfl:k=B.length:=by omega
      have HO:Hid (O=Bi m B):=by
       show O=_;rw [jR (by omega),jR (by simp [Bi])] at hO;exact hO
      have HR:Hid (R=CF m B):=by
       show R=_;rw [jR (by omega),jR (by simp [CF])] at hR;exact hR
      have hsl:s=(Bi m B).sum:=by rw [hs,jR (by simp [Bi])]
      obtain ⟨hen1,hen2⟩:=RZ m B (by rw [←HW.out];omega);rw [←hsl] at hen1 hen2
      have H3 : Hid (N5 w B m X ga gb (m - s).toNat (.int .i64 s) wr) := ⟨hb, O, R, s, rfl, hs0, hen1, rfl, hT, hOl, hRl, by
        rw [HX2.out, CJ, if_neg (by rw [← HW.out]; omega), HO.out, HR.out, hsl], by rw [HR.out]; exact hen2, fun x hx => ⟨(hbd2 x hx).1, by have := (hbd2 x hx).2; omega⟩⟩
      clear hT hOl hRl hO hR hs hbd2 hb hsl hen1 hen2 HO HR hs0 hs1;go_wp2;go_loopg [9] (m - s).toNat (N5 w B m X ga gb)
      case atStart=>exact H3.out
      case round=>
       clear H3 s;obtain ⟨hb,O,R,s,hr,hs0,hsm,rfl,hT,hOl,hRl,hg,hcnt,hbd2⟩:=hrel;by_cases hlt2:s<m
       ·have hsb:decide (s<m)=true:=jL hlt2;have HT:=jp hT;have HG:Hid (CI (m - s).toNat O R=X∧(m - s).toNat≤R.countP (fun x=>decide (0<x))∧(∀x∈O,0≤x∧x≤2100 - (m - s))∧O.length=B.length):=⟨hg,hcnt,hbd2,hOl⟩;clear hT hg hcnt hbd2 hOl;go_wp2;generalize wr=wo at *;go_loopg [11,12] B.length (fun r kv i wx=>Aa wo wx∧∃j:Nat,r=B.length - j∧j≤B.length∧i= .int .i64 j∧kv= .int .i64 (A5 R j).1)
        case atStart=>exact ⟨jD _,0,by omega,by omega,rfl,rfl⟩
        case round=>
         obtain ⟨hbx,j,hrj,hj,rfl,rfl⟩:=hrel;have hTx:=HT.out.later hbx;by_cases hjl:j<B.length
         ·have hjb:decide ((j:Int)<(B.length:Int))=true:=jL (by omega);have hjR:j<R.length:=by omega
          have hgD:R.getD j 0=R[j]:=by rw [jV,jG hjR];rfl
          have d1:wr.cell? ⟨gb,j,none⟩=some (.int .i64 R[j]):=(World.ownsRow.cellAt hTx.2.1 j (by omega)).trans (by rw [List.getElem?_map,jG hjR];rfl)
          have HN:Hid ((A5 R (j+1)).1=if (A5 R j).2<R[j] then (j:Int) else (A5 R j).1):=by
           show (A5 R (j+1)).1=_;rw [A5,hgD];split <;>rfl
          have hm1':=(KT R j).2.1;rcases Uw R j with ⟨b1,b2⟩|⟨kk,hkk,b1,b2,b3⟩
          ·rw [b1] at HN ⊢;rw [b2] at HN;clear hTx b1 b2 hgD hm1';generalize R[j]=rj at *;by_cases hp:0≤rj
           ·have hpb:decide (rj≥0)=true:=jL hp;have HN2:Hid ((A5 R (j+1)).1=j):=by show (A5 R (j+1)).1=_;rw [HN.out,if_pos (by omega)]
            go_wp2_with fail;go_quiet (fail);go_wp2;go_roundg (B.length - (j+1))
            case measure=>omega
            case rel=>exact ⟨by solve_by_elim [jA,jB,jC,jD,jE],j+1,rfl,by omega,by go_num,by rw [HN2.out]⟩
           ·have hpb:decide (rj≥0)=false:=jK hp;have HN2:Hid ((A5 R (j+1)).1= -1):=by show (A5 R (j+1)).1=_;rw [HN.out,if_neg (by omega)]
            go_wp2_with fail;go_quiet (fail);go_wp2;go_roundg (B.length - (j+1))
            case measure=>omega
            case rel=>exact ⟨by solve_by_elim [jA,jB,jC,jD,jE],j+1,rfl,by omega,by go_num,by rw [HN2.out]⟩
          ·have hkR:kk<R.length:=by omega
           have d2:wr.cell? ⟨gb,kk,none⟩=some (.int .i64 R[kk]):=(World.ownsRow.cellAt hTx.2.1 kk (by omega)).trans (by rw [List.getElem?_map,jG hkR];rfl);have hgK:R.getD kk 0=R[kk]:=by rw [jV,jG hkR];rfl
           rw [hgK] at b2 b3;rw [b1] at HN ⊢;rw [b2] at HN;clear hTx b1 b2 hgD hm1' hgK;generalize R[j]=rj at *;generalize R[kk]=rk at *;have hkb:decide ((kk:Int)<0)=false:=jK (by omega);have hkb2:(kk:Int)<(B.length:Int):=by omega
           by_cases hp:0≤rj
           ·have hpb:decide (rj≥0)=true:=jL hp;by_cases hgt:rk<rj
            ·have hgb:decide (rj>rk)=true:=jL hgt;have HN2:Hid ((A5 R (j+1)).1=j):=by show (A5 R (j+1)).1=_;rw [HN.out,if_pos (by omega)]
             go_wp2_with fail;go_quiet (fail);go_wp2;go_roundg (B.length - (j+1))
             case measure=>omega
             case rel=>exact ⟨by solve_by_elim [jA,jB,jC,jD,jE],j+1,rfl,by omega,by go_num,by rw [HN2.out]⟩
            ·have hgb:decide (rj>rk)=false:=jK hgt;have HN2:Hid ((A5 R (j+1)).1=kk):=by show (A5 R (j+1)).1=_;rw [HN.out,if_neg (by omega)]
             go_wp2_with fail;go_quiet (fail);go_wp2;go_roundg (B.length - (j+1))
             case measure=>omega
             case rel=>exact ⟨by solve_by_elim [jA,jB,jC,jD,jE],j+1,rfl,by omega,by go_num,by rw [HN2.out]⟩
           ·have hpb:decide (rj≥0)=false:=jK hp;have HN2:Hid ((A5 R (j+1)).1=kk):=by show (A5 R (j+1)).1=_;rw [HN.out,if_neg (by omega)]
            go_wp2_with fail;go_quiet (fail);go_wp2;go_roundg (B.length - (j+1))
            case measure=>omega
            case rel=>exact ⟨by solve_by_elim [jA,jB,jC,jD,jE],j+1,rfl,by omega,by go_num,by rw [HN2.out]⟩
         ·have hjb:decide ((j:Int)<(B.length:Int))=false:=jK (by omega);obtain rfl:j=B.length:=by omega
          obtain ⟨g1,g2,g3,g4⟩:=HG.out;obtain ⟨p1,p2,p3⟩:=P6 (R:=R) (by omega);obtain ⟨kb,hkb⟩:=jM p1;rw [hkb,Int.toNat_natCast] at p2 p3;have hbe:(A5 R B.length).1=(kb:Int):=by rw [←hRl];exact hkb
          have hkO:kb<O.length:=by omega
          have hpk:0<R[kb]:=by rw [jV,jG p2] at p3;exact p3
          obtain ⟨t,ht⟩:∃t,(m - s).toNat=t+1:=⟨(m - s).toNat - 1,by omega⟩;have HGG:Hid (CI t (O.set kb (O[kb]+1)) (R.set kb (-1))=X∧t≤(R.set kb (-1)).countP (fun x=>decide (0<x))):=Qn hkb hkO p2 hpk (by rw [←ht];exact g1) (by rw [←ht];exact g2);have hbO:=g3 _ (jJ hkO)
          have HBD:Hid (∀x∈O.set kb (O[kb]+1),0≤x∧x≤2100 - (m - (s+1))):=by
           intro x hx;rcases List.mem_or_eq_of_mem_set hx with h|h
           ·have:=g3 x h;omega
           ·omega
          have d1:wr.cell? ⟨ga,kb,none⟩=some (.int .i64 O[kb]):=(World.ownsRow.cellAt hTx.1 kb (by omega)).trans (by rw [List.getElem?_map,jG hkO];rfl);have e1:=World.ownsRow.frozenAt hTx.1 kb;have d2:∃u,wr.cell? ⟨gb,kb,none⟩=some u:=⟨_,(World.ownsRow.cellAt hTx.2.1 kb (by omega)).trans (by rw [List.getElem?_map,jG p2];rfl)⟩;obtain ⟨u2,d2⟩:=d2;have e2:=World.ownsRow.frozenAt hTx.2.1 kb;have hgn:=hTx.2.2;have hga2:=(World.ownsRow.lt hTx.1 ga rfl).1;have hgb2:=(World.ownsRow.lt hTx.2.1 gb rfl).1;have HTS:=jp ((hTx.set1 kb (O[kb]+1)).set2 kb (-1));have HB2:Hid (Aa w ((wr.setCell ⟨ga,kb,none⟩ (.int .i64 (O[kb]+1))).setCell ⟨gb,kb,none⟩ (.int .i64 (-1)))):=((hb.trans hbx).step_set (p:=⟨ga,kb,none⟩) hga2 _).step_set (p:=⟨gb,kb,none⟩) hgb2 _;have hkb3:(kb:Int)<(B.length:Int):=by omega
          have HL:Hid ((O.set kb (O[kb]+1)).length=B.length∧(R.set kb (-1)).length=B.length∧t=(m - (s+1)).toNat):=⟨by rw [List.length_set];exact g4,by rw [List.length_set];exact hRl,by omega⟩;rw [hbe];clear hTx g1 g2 g3 g4 p1 p3 hkb hbe hpk;generalize O[kb]=ok at *;clear hkO p2;obtain ⟨hbO1,hbO2⟩:=hbO;go_wp2;go_roundg t
          case measure=>omega
          case rel=>exact ⟨HB2.out,O.set kb (ok+1),R.set kb (-1),s+1,HL.out.2.2,by omega,by omega,by go_num,HTS.out,HL.out.1,HL.out.2.1,by rw [←HL.out.2.2];exact HGG.out.1,by rw [←HL.out.2.2];exact HGG.out.2,HBD.out⟩
       ·have hsb:decide (s<m)=false:=jK hlt2;obtain rfl:s=m:=by omega
        have HE:Hid (O=X∧BS w.heap.size wr (sl ga O.length B.length) O):=by
         refine ⟨?_,hT.1⟩;rw [←hg,Int.sub_self];rfl
        have HOl:=jp hOl;clear hT hg hcnt hbd2 hOl hRl;go_wp2;go_ret;refine ⟨_,rfl,hb,?_⟩;have:=HE.out.2;rw [HOl.out] at this;rw [←HE.out.1];exact this
   ·have hWb:decide (W>0)=false:=jK hW0;have HX2:Hid (X=List.replicate B.length 0):=by show X=_;rw [HX.out,DJ,if_pos (by rw [←HW.out];omega)]
    go_wp2;go_loopg [9,10] 0 (fun _ n i wr'=>w2=wr'∧n= .int .i64 0∧i= .int .i64 0)
    case atStart=>exact ⟨rfl,rfl,rfl⟩
    case round=>
     obtain ⟨rfl,rfl,rfl⟩:=hrel;have HT0:=jp hT0;clear hT0;go_wp2
     all_goals
      go_loopg [9] 0 (fun _ n wr'=>w2=wr'∧n= .int .i64 0)
      case atStart=>exact ⟨rfl,rfl⟩
      case round=>
       obtain ⟨rfl,rfl⟩:=hrel;go_wp2;go_ret;refine ⟨_,rfl,hbb,?_⟩;rw [HX2.out,hga];have:=HT0.out.1;rw [List.length_replicate] at this;exact this
end Go.Proofs.YtpapdkhjdelfcabGreat
