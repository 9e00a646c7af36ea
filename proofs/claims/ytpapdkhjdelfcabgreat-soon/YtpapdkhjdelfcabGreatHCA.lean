import Derived.Test.YtpapdkhjdelfcabGreatHBL
import Derived.Test.YtpapdkhjdelfcabGreatHBQ
import Derived.Test.YtpapdkhjdelfcabGreatHAL
set_option maxRecDepth 100000
set_option maxHeartbeats 4000000
namespace Go.Proofs.YtpapdkhjdelfcabGreat
open Go.RowKit
theorem cntTo_count (L:List ByteArray) (id:ByteArray):∀k,k≤L.length→cntTo L id k=(L.take k).countP fun x=>x.toList==id.toList:=by
 intro k
 induction k with
 |zero=>intro _;simp [cntTo]
 |succ k ih=>
  intro hk;rw [cntTo,ih (by omega),List.take_succ_eq_append_getElem (by omega),List.countP_append,List.getElem?_eq_getElem (by omega)];simp [List.countP_cons]
theorem wSum_nonneg:∀B:List BK,(∀b∈B,0≤b.2)→0≤wSum B
 |[],_=>by simp [wSum]
 |b::B,h=>by
  have h1:=wSum_nonneg B (fun x hx=>h x (List.mem_cons_of_mem _ hx));have h2:=h b List.mem_cons_self;simp only [wSum,List.map_cons,List.sum_cons] at h1 ⊢;omega
theorem shAll:ShAll:=by
 intro c B hc hB ha;unfold SharedOK;by_cases hW:wSum B=0
 ·exact Or.inl hW
 refine Or.inr ?_;have hw:∀b∈B,0≤b.2:=fun b hb=>(hB.1.2 b hb).2.2.1
 have hW0:=wSum_nonneg B hw;have hc3:=hc.2.2.1;obtain ⟨n,hn⟩:=Int.eq_ofNat_of_zero_le (show 0≤c.slots by omega);have hn3:3≤n:=by omega
 have hpr : ∀ d : Nat, 2 ≤ d → d < n → n % d ≠ 0 := fun d h1 h2 h3 => hc.2.2.2.2.1 d h1 (by omega) (by
   rw [hn]
   have : (n : Int) % (d : Int) = ((n % d : Nat) : Int) := by simp
   rw [this, h3]; rfl)
 obtain ⟨s1,s2,s3⟩:=shares_spec c.slots B (by omega) hw (by omega);have hmk:mkF c B=(maglevF c B).map fun o=>(0,o):=by unfold mkF;rw [if_neg (by omega),if_pos ha]
 have hL:namesF B (mkF c B)=(maglevF c B).map (nameF B):=by rw [hmk,namesF,List.map_map];rfl
 have hWy:∀i,i<(sharesF c.slots B).length→WayOK n ((B.map (wayOf c)).getD i (0,0)):=fun i hi=>by
  rw [List.getD_eq_getElem?_getD,List.getElem?_map,List.getElem?_eq_getElem (by omega)];have h1:=restF_range (hsh c.key 111 [] B[i].1) c.slots (by omega);have h2:=restF_range (hsh c.key 115 [] B[i].1) (c.slots - 1) (by omega);refine ⟨h1.1,?_,?_⟩
  ·show 1≤restF (hsh c.key 115 [] B[i].1) (c.slots - 1)+1;omega
  ·show restF (hsh c.key 115 [] B[i].1) (c.slots - 1)+1<(n:Int);omega
 have hsum:sumN (shN (sharesF c.slots B)) (sharesF c.slots B).length=n:=by
  have:=sumN_list _ (sharesF c.slots B) rfl (fun j hj=>(s3 j (by omega)).1);omega
 obtain ⟨r1,r2⟩:=fill_all (W:=B.map (wayOf c)) (sh:=sharesF c.slots B) hpr (by omega) hWy hsum;have hS:maglevF c B=fillTo (B.map (wayOf c)) (sharesF c.slots B) (List.replicate n (-1)) n:=by unfold maglevF;rw [show c.slots.toNat=n by omega]
 have hlen:(maglevF c B).length=n:=by rw [hS,fillTo_len,List.length_replicate]
 rw [←hS] at r1 r2;generalize maglevF c B=S at *;rw [show c.slots.toNat=n by omega,hL];refine ⟨by rw [List.length_map,hlen],fun b hb=>?_⟩;obtain ⟨i,hi,rfl⟩:=List.mem_iff_getElem.1 hb
 have hcnt:cntTo (S.map (nameF B)) B[i].1 n=S.count (i:Int):=by
  rw [cntTo_count _ _ _ (by rw [List.length_map];omega),List.take_of_length_le (by rw [List.length_map];omega),List.countP_map,List.count];refine List.countP_congr fun x hx=>?_
  show ((nameF B x).toList==B[i].1.toList)=true↔(x==(i:Int))=true;rw [str_eq,beq_iff_eq];rcases r1 x hx with rfl|⟨j,hj,rfl⟩
  ·constructor
   ·intro h;have h1:=(hB.1.2 _ hb).1;rw [nameF,if_pos (by decide)] at h;rw [←h] at h1;exact absurd h1 (by decide)
   ·intro h;omega
  ·rw [s2] at hj
   have hnm:nameF B (j:Int)=B[j].1:=by
    rw [nameF,if_neg (by omega),Int.toNat_natCast,List.getElem?_eq_getElem hj];rfl
   rw [hnm];constructor
   ·intro h;by_cases hji:j=i
    ·rw [hji]
    ·exact absurd h (hB.2.ne hj hi hji)
   ·intro h;have:j=i:=by omega
    subst this;rfl
 have hg:=s3 i hi
 have hlo:(lowF c.slots B).getD i 0=c.slots * B[i].2 / wSum B:=by
  rw [lowF,List.getD_eq_getElem?_getD,List.getElem?_map,List.getElem?_eq_getElem hi];rfl
 have hre:(remF c.slots B).getD i 0=c.slots * B[i].2 % wSum B:=by
  rw [remF,List.getD_eq_getElem?_getD,List.getElem?_map,List.getElem?_eq_getElem hi];rfl
 rw [hlo,hre,hn] at hg
 have hsc:((S.count (i:Int):Nat):Int)=(sharesF c.slots B).getD i 0:=by
  rw [r2 i (by omega),shN];have:=(s3 i hi).1;omega
 unfold ShareOK;rw [hcnt,hsc,hn];exact hg.2
end Go.Proofs.YtpapdkhjdelfcabGreat
namespace Go.Proofs.YtpapdkhjdelfcabGreat
open Go.RowKit
def Cop (each:Int) (B:List BK) (n:ByteArray) (k:Nat):Prop:=∃b∈B,b.1=n∧k<(each * b.2).toNat
def IsMin (X:ByteArray→Nat→Nat→Prop) (v:ByteArray→Nat→Nat→Int) (n:ByteArray):Prop:=∃i k,X n i k∧∀m j l,X m j l→v n i k<v m j l∨(v n i k=v m j l∧less m n=false)
theorem IsMin.unique {X:ByteArray→Nat→Nat→Prop} {v:ByteArray→Nat→Nat→Int} {n m:ByteArray} (h:IsMin X v n) (h':IsMin X v m):n=m:=by
 obtain ⟨i,k,h1,h2⟩:=h;obtain ⟨j,l,h3,h4⟩:=h';rcases h2 m j l h3 with h5|⟨h5,h6⟩
 ·rcases h4 n i k h1 with h7|⟨h7,_⟩<;>omega
 ·rcases h4 n i k h1 with h7|⟨_,h8⟩
  ·omega
  ·exact less_total h8 h6
theorem IsMin.less {X X':ByteArray→Nat→Nat→Prop} {v:ByteArray→Nat→Nat→Int} {n:ByteArray} (h:IsMin X' v n) (hs:∀m j l,X m j l→X' m j l) (hn:∀j l,X' n j l→X n j l):IsMin X v n:=by
 obtain ⟨i,k,h1,h2⟩:=h;exact ⟨i,k,hn i k h1,fun m j l hm=>h2 m j l (hs m j l hm)⟩
theorem winTo_spec (key:ByteArray) (s i:Nat) (id:ByteArray) (m:Int×Int):∀k,
  ((winTo key s i id m k).1= -1∨0≤(winTo key s i id m k).1∨(winTo key s i id m k)=m)∧
  (winTo key s i id m k=m∨((winTo key s i id m k).1=i∧∃j,j<k∧(winTo key s i id m k).2=hsh key 104 [s,j] id))∧
  (0≤m.1→0≤(winTo key s i id m k).1∧m.2≤(winTo key s i id m k).2∧((winTo key s i id m k).2=m.2→winTo key s i id m k=m))∧
  (∀j,j<k→0≤(winTo key s i id m k).1∧hsh key 104 [s,j] id≤(winTo key s i id m k).2):=by
 intro k
 induction k with
 |zero=>exact ⟨Or.inr (Or.inr rfl),Or.inl rfl,fun h=>⟨h,Int.le_refl _,fun _=>rfl⟩,fun j hj=>by omega⟩
 |succ k ih=>
  obtain ⟨h1,h2,h3,h4⟩:=ih;simp only [winTo];split
  ·rename_i hc;refine ⟨Or.inr (Or.inl (by simp only;omega)),Or.inr ⟨rfl,k,by omega,rfl⟩,fun h=>⟨by simp only;omega,?_,?_⟩,fun j hj=>⟨by simp only;omega,?_⟩⟩
   ·have:=h3 h;simp only;rcases hc with hc|hc <;>omega
   ·intro he;have:=h3 h;simp only at he;rcases hc with hc|hc <;>omega
   ·simp only;by_cases hjk:j=k
    ·subst hjk;exact Int.le_refl _
    ·have:=h4 j (by omega);rcases hc with hc|hc <;>omega
  ·rename_i hc;have hc1:0≤(winTo key s i id m k).1:=by omega
   have hc2:hsh key 104 [s,k] id≤(winTo key s i id m k).2:=by omega
   refine ⟨Or.inr (Or.inl hc1),h2.imp (fun h=>h) (fun ⟨a,j,b,c⟩=>⟨a,j,by omega,c⟩),h3,fun j hj=>⟨hc1,?_⟩⟩;by_cases hjk:j=k
   ·subst hjk;exact hc2
   ·exact (h4 j (by omega)).2
theorem winnerTo_spec (key:ByteArray) (s:Nat) (B:List BK):∀n,n≤B.length→
  ((winnerTo key s B n).1<n)∧
  (winnerTo key s B n=(-1,0)∨∃p,∃(hp:p<B.length),p<n∧(winnerTo key s B n).1=p∧∃j,j<B[p].2.toNat∧(winnerTo key s B n).2=hsh key 104 [s,j] B[p].1)∧
  (∀i (hi:i<B.length),i<n→∀j,j<B[i].2.toNat→0≤(winnerTo key s B n).1∧(hsh key 104 [s,j] B[i].1<(winnerTo key s B n).2∨(hsh key 104 [s,j] B[i].1=(winnerTo key s B n).2∧(winnerTo key s B n).1≤i))):=by
 intro n
 induction n with
 |zero=>intro _;exact ⟨by simp [winnerTo],Or.inl rfl,fun i _ hi=>by omega⟩
 |succ n ih=>
  intro hn;obtain ⟨h1,h2,h3⟩:=ih (by omega)
  have hst:winnerTo key s B (n+1)=winTo key s n B[n].1 (winnerTo key s B n) B[n].2.toNat:=by
   rw [winnerTo,List.getElem?_eq_getElem (show n<B.length by omega)]
  obtain ⟨g1,g2,g3,g4⟩:=winTo_spec key s n B[n].1 (winnerTo key s B n) B[n].2.toNat;rw [←hst] at g1 g2 g3 g4;refine ⟨?_,?_,?_⟩
  ·rcases g2 with g|⟨g,_⟩
   ·rw [g];push_cast;omega
   ·rw [g];push_cast;omega
  ·rcases g2 with g|⟨g,j,hj,he⟩
   ·rw [g];exact h2.imp id (fun ⟨p,hp,a,b⟩=>⟨p,hp,by omega,b⟩)
   ·exact Or.inr ⟨n,by omega,by omega,g,j,hj,he⟩
  ·intro i hi hin j hj;by_cases hi2:i=n
   ·subst hi2;obtain ⟨q1,q2⟩:=g4 j hj;refine ⟨q1,?_⟩;rcases g2 with g|⟨g,_⟩
    ·by_cases he:hsh key 104 [s,j] B[i].1=(winnerTo key s B (i+1)).2
     ·exact Or.inr ⟨he,by rw [g];omega⟩
     ·exact Or.inl (by omega)
    ·by_cases he:hsh key 104 [s,j] B[i].1=(winnerTo key s B (i+1)).2
     ·exact Or.inr ⟨he,by omega⟩
     ·exact Or.inl (by omega)
   ·obtain ⟨q1,q2⟩:=h3 i hi (by omega) j hj;obtain ⟨r1,r2,r3⟩:=g3 q1;refine ⟨r1,?_⟩;by_cases he:(winnerTo key s B (n+1)).2=(winnerTo key s B n).2
    ·rw [r3 he];exact q2
    ·exact Or.inl (by omega)
theorem Srt.le {B:List BK} (h:Srt B) {i j:Nat} (hi:i<B.length) (hj:j<B.length) (hij:i≤j):less B[j].1 B[i].1=false:=by
 by_cases e:i=j
 ·subst e;exact less_irrefl _
 ·exact less_asymm (List.pairwise_iff_getElem.1 h i j hi hj (by omega))
theorem nameF_at {B:List BK} {p:Nat} (hp:p<B.length):nameF B (p:Int)=B[p].1:=by
 rw [nameF,if_neg (by omega),Int.toNat_natCast,List.getElem?_eq_getElem hp];rfl
theorem wSum_pos:∀{B:List BK},1≤wSum B→(∀b∈B,0≤b.2)→∃b∈B,1≤b.2
 |[],h,_=>by simp [wSum] at h
 |b::B,h,hw=>by
  by_cases hb:1≤b.2
  ·exact ⟨b,List.mem_cons_self,hb⟩
  ·have h0:=hw b List.mem_cons_self;obtain ⟨x,hx,h1⟩:=wSum_pos (B:=B) (by simp only [wSum,List.map_cons,List.sum_cons] at h ⊢;omega) (fun x hx=>hw x (List.mem_cons_of_mem _ hx));exact ⟨x,List.mem_cons_of_mem _ hx,h1⟩
theorem winner_min {key:ByteArray} {B:List BK} {s:Nat} (hB:Srt B) (hw:∃b∈B,1≤b.2):IsMin (fun n i k=>i=0∧Cop 1 B n k) (fun n _ k=> - hsh key 104 [s,k] n) (nameF B (winnerF key B s)):=by
 obtain ⟨h1,h2,h3⟩:=winnerTo_spec key s B B.length (Nat.le_refl _);obtain ⟨b,hb,hb1⟩:=hw;obtain ⟨i,hi,rfl⟩:=List.mem_iff_getElem.1 hb;have h4:=h3 i hi hi 0 (by omega);rcases h2 with h2|⟨p,hp,_,he,j,hj,hv⟩
 ·rw [h2] at h4;exact absurd h4.1 (by decide)
 ·have hnm:nameF B (winnerF key B s)=B[p].1:=by rw [winnerF,he,nameF_at hp]
  rw [hnm];refine ⟨0,j,⟨rfl,B[p],List.getElem_mem hp,rfl,by rw [Int.one_mul];exact hj⟩,?_⟩;rintro m l q ⟨rfl,b',hb',rfl,hq⟩;obtain ⟨t,ht,rfl⟩:=List.mem_iff_getElem.1 hb';rw [Int.one_mul] at hq;have h5:=(h3 t ht ht q hq).2;rw [hv,he] at h5;rcases h5 with h5|⟨h5,h6⟩
  ·exact Or.inl (by simp only;omega)
  ·exact Or.inr ⟨by simp only;omega,hB.le hp ht (by omega)⟩
def LexE (L:List EI):Prop:=L.Pairwise fun a b=>a.1<b.1∨(a.1=b.1∧a.2≤b.2)
theorem insE_lex {e:EI} {L:List EI} (h:LexE L) (hp:∀x∈L,x.2≤e.2):LexE (insE e L):=by
 induction L with
 |nil=>simp [insE,LexE]
 |cons x L ih=>
  obtain ⟨h1,h2⟩:=List.pairwise_cons.1 h;rw [insE];split
  ·rename_i hlt;refine List.pairwise_cons.2 ⟨fun y hy=>?_,h⟩;rcases List.mem_cons.1 hy with rfl|hy
   ·exact Or.inl hlt
   ·have:=h1 y hy;omega
  ·rename_i hlt;refine List.pairwise_cons.2 ⟨fun y hy=>?_,ih h2 (fun y hy=>hp y (List.mem_cons_of_mem _ hy))⟩;rcases insE_mem.1 hy with rfl|hy
   ·have:=hp x List.mem_cons_self;omega
   ·exact h1 y hy
theorem sortTo_mem (L:List EI) (x:EI):∀n,n≤L.length→(x∈sortTo L n↔x∈L.take n):=by
 intro n
 induction n with
 |zero=>intro _;simp [sortTo]
 |succ n ih=>
  intro hn;rw [sortTo,List.getElem?_eq_getElem (show n<L.length by omega),List.take_succ_eq_append_getElem (by omega)];show x∈insE L[n] (sortTo L n)↔_;rw [insE_mem,ih (by omega),List.mem_append,List.mem_singleton];exact Or.comm
theorem sortTo_lex (L:List EI) (hL:L.Pairwise fun a b=>a.2≤b.2):∀n,n≤L.length→LexE (sortTo L n):=by
 intro n
 induction n with
 |zero=>intro _;simp [sortTo,LexE]
 |succ n ih=>
  intro hn;rw [sortTo,List.getElem?_eq_getElem (show n<L.length by omega)];refine insE_lex (ih (by omega)) fun x hx=>?_
  rw [sortTo_mem L x n (by omega)] at hx;obtain ⟨i,hi,rfl⟩:=List.mem_iff_getElem.1 hx;rw [List.getElem_take];rw [List.length_take] at hi;exact List.pairwise_iff_getElem.1 hL i n (by omega) (by omega) (by omega)
theorem ptsTo_spec (key:ByteArray) (letter:UInt8) (each:Int) (B:List BK):∀n,n≤B.length→
  (∀x,x∈ptsTo key letter each B n↔∃i,∃(hi:i<B.length),i<n∧∃k,k<(each * B[i].2).toNat∧x=(hsh key letter [k] B[i].1,(i:Int)))∧(ptsTo key letter each B n).Pairwise fun a b=>a.2≤b.2:=by
 intro n
 induction n with
 |zero=>intro _;exact ⟨fun x=>⟨fun h=>by simp [ptsTo] at h,fun ⟨i,_,h,_⟩=>by omega⟩,by simp [ptsTo]⟩
 |succ n ih=>
  intro hn;obtain ⟨h1,h2⟩:=ih (by omega)
  have hst:ptsTo key letter each B (n+1)=ptsTo key letter each B n++ptsOf key letter each n B[n]:=by
   rw [ptsTo,List.getElem?_eq_getElem (show n<B.length by omega)]
  have hof:∀x,x∈ptsOf key letter each n B[n]↔∃k,k<(each * B[n].2).toNat∧x=(hsh key letter [k] B[n].1,(n:Int)):=fun x=>by
   rw [ptsOf,List.mem_map];exact ⟨fun ⟨k,hk,e⟩=>⟨k,List.mem_range.1 hk,e.symm⟩,fun ⟨k,hk,e⟩=>⟨k,List.mem_range.2 hk,e.symm⟩⟩
  rw [hst];refine ⟨fun x=>?_,List.pairwise_append.2 ⟨h2,?_,?_⟩⟩
  ·rw [List.mem_append,h1,hof];constructor
   ·rintro (⟨i,hi,hin,r⟩|r)
    ·exact ⟨i,hi,by omega,r⟩
    ·exact ⟨n,by omega,by omega,r⟩
   ·rintro ⟨i,hi,hin,r⟩;by_cases hi2:i=n
    ·subst hi2;exact Or.inr r
    ·exact Or.inl ⟨i,hi,by omega,r⟩
  ·rw [ptsOf];refine List.pairwise_map.2 (List.pairwise_of_forall ?_);intro _ _;exact Int.le_refl _
  ·intro a ha b hb;obtain ⟨i,_,hin,k,_,rfl⟩:=(h1 a).1 ha;obtain ⟨k',_,rfl⟩:=(hof b).1 hb;show (i:Int)≤(n:Int);omega
theorem pointsF_spec (key:ByteArray) (letter:UInt8) (each:Int) (B:List BK):
  (∀x,x∈pointsF key letter each B↔∃i,∃(hi:i<B.length),∃k,k<(each * B[i].2).toNat∧x=(hsh key letter [k] B[i].1,(i:Int)))∧LexE (pointsF key letter each B):=by
 obtain ⟨h1,h2⟩:=ptsTo_spec key letter each B B.length (Nat.le_refl _);refine ⟨fun x=>?_,sortTo_lex _ h2 _ (Nat.le_refl _)⟩;rw [pointsF,sortTo_mem _ _ _ (Nat.le_refl _),List.take_length,h1];exact ⟨fun ⟨i,hi,_,r⟩=>⟨i,hi,r⟩,fun ⟨i,hi,r⟩=>⟨i,hi,hi,r⟩⟩
def dist (p h:Int):Int:=(p - h) % 18446744073709551616
theorem dist_up {p h:Int} (hp:0≤p∧p<18446744073709551616) (hh:0≤h∧h<18446744073709551616) (hle:h≤p):dist p h=p - h:=Int.emod_eq_of_lt (by omega) (by omega)
theorem dist_down {p h:Int} (hp:0≤p∧p<18446744073709551616) (hh:0≤h∧h<18446744073709551616) (hlt:p<h):dist p h=p - h+18446744073709551616:=by
 have:(p - h) % 18446744073709551616=(p - h+18446744073709551616) % 18446744073709551616:=by omega
 rw [dist,this];exact Int.emod_eq_of_lt (by omega) (by omega)
theorem nextF_min {E:List EI} {h:Int} (hE:LexE E) (hne:0<E.length) (hr:∀x∈E,0≤x.1∧x.1<18446744073709551616) (hh:0≤h∧h<18446744073709551616):
  ∃e∈E,E[nextF E h]?=some e∧∀x∈E,dist e.1 h<dist x.1 h∨(dist e.1 h=dist x.1 h∧e.2≤x.2):=by
 by_cases hx:∃k,∃(hk:k<E.length),h≤E[k].1
 ·
  have hfirst:∃k,∃(hk:k<E.length),h≤E[k].1∧∀j (hj:j<E.length),j<k→¬h≤E[j].1:=by
   obtain ⟨k,hk,he⟩:=hx
   induction k using Nat.strongRecOn with
   |ind k ih=>
    by_cases hex:∃j,∃(hj:j<E.length),j<k∧h≤E[j].1
    ·obtain ⟨j,hj,hjk,hej⟩:=hex;exact ih j hjk hj hej
    ·exact ⟨k,hk,he,fun j hj hjk hej=>hex ⟨j,hj,hjk,hej⟩⟩
  obtain ⟨k,hk,he,hall⟩:=hfirst;rw [nextF_hit hk he hall];refine ⟨E[k],List.getElem_mem hk,List.getElem?_eq_getElem hk,fun x hxm=>?_⟩;obtain ⟨j,hj,rfl⟩:=List.mem_iff_getElem.1 hxm;have hrk:=hr _ (List.getElem_mem hk);have hrj:=hr _ (List.getElem_mem hj);rw [dist_up hrk hh he];rcases Nat.lt_trichotomy j k with h1|h1|h1
  ·have:=hall j hj h1;rw [dist_down hrj hh (by omega)];exact Or.inl (by omega)
  ·subst h1;rw [dist_up hrj hh he];exact Or.inr ⟨rfl,Int.le_refl _⟩
  ·have:=List.pairwise_iff_getElem.1 hE k j hk hj h1;rw [dist_up hrj hh (by omega)];rcases this with h2|⟨h2,h3⟩
   ·exact Or.inl (by omega)
   ·exact Or.inr ⟨by omega,h3⟩
 ·have hall:∀j (hj:j<E.length),¬h≤E[j].1:=fun j hj he=>hx ⟨j,hj,he⟩
  rw [nextF_none hall];refine ⟨E[0],List.getElem_mem hne,List.getElem?_eq_getElem hne,fun x hxm=>?_⟩;obtain ⟨j,hj,rfl⟩:=List.mem_iff_getElem.1 hxm;have hrk:=hr _ (List.getElem_mem hne);have hrj:=hr _ (List.getElem_mem hj);have a1:=hall 0 hne;have a2:=hall j hj;rw [dist_down hrk hh (by omega),dist_down hrj hh (by omega)];by_cases hj0:j=0
  ·subst hj0;exact Or.inr ⟨rfl,Int.le_refl _⟩
  ·have:=List.pairwise_iff_getElem.1 hE 0 j hne hj (by omega);rcases this with h2|⟨h2,h3⟩
   ·exact Or.inl (by omega)
   ·exact Or.inr ⟨by omega,h3⟩
theorem pts_min {key:ByteArray} {letter:UInt8} {each:Int} {B:List BK} (hB:Srt B) (hne:0<(pointsF key letter each B).length) (h:Int) (hh:0≤h∧h<18446744073709551616):
  ∃p,∃(hp:p<B.length),∃k,k<(each * B[p].2).toNat∧(pointsF key letter each B)[nextF (pointsF key letter each B) h]?=some (hsh key letter [k] B[p].1,(p:Int))∧
   ∀m l,Cop each B m l→dist (hsh key letter [k] B[p].1) h<dist (hsh key letter [l] m) h∨(dist (hsh key letter [k] B[p].1) h=dist (hsh key letter [l] m) h∧less m B[p].1=false):=by
 obtain ⟨h1,h2⟩:=pointsF_spec key letter each B
 obtain ⟨e, he, hat, hmin⟩ := nextF_min h2 hne (fun x hx => by
   obtain ⟨i, hi, k, _, rfl⟩ := (h1 x).1 hx
   exact hsh_range _ _ _ _) hh
 obtain ⟨p,hp,k,hk,rfl⟩:=(h1 e).1 he;refine ⟨p,hp,k,hk,hat,?_⟩;rintro m l ⟨b,hb,rfl,hl⟩;obtain ⟨t,ht,rfl⟩:=List.mem_iff_getElem.1 hb;rcases hmin _ ((h1 _).2 ⟨t,ht,l,hl,rfl⟩) with h3|⟨h3,h4⟩
 ·exact Or.inl h3
 ·simp only at h3 h4;exact Or.inr ⟨h3,hB.le hp ht (by omega)⟩
theorem pts_ne {key:ByteArray} {letter:UInt8} {each:Int} {B:List BK} (he:1≤each) (hw:∃b∈B,1≤b.2):0<(pointsF key letter each B).length:=by
 obtain ⟨b,hb,hb1⟩:=hw;obtain ⟨i,hi,rfl⟩:=List.mem_iff_getElem.1 hb;refine List.length_pos_of_mem (((pointsF_spec key letter each B).1 (hsh key letter [0] B[i].1,(i:Int))).2 ⟨i,hi,0,?_,rfl⟩);have:1 * 1≤each * B[i].2:=Int.mul_le_mul he hb1 (by omega) (by omega);omega
def lookD (c:Cfg) (E:List EI) (k:ByteArray) (i:Nat):Int:=((E.getD (nextF E (hsh c.key 112 [i] k)) (0,0)).1 - hsh c.key 112 [i] k) % 18446744073709551616
theorem probeTo_spec (c:Cfg) (E:List EI) (k:ByteArray):∀n,0<n→∃i,i<n∧probeTo c E k n=(nextF E (hsh c.key 112 [i] k),lookD c E k i)∧∀j,j<n→lookD c E k i<lookD c E k j∨(lookD c E k i=lookD c E k j∧i≤j):=by
 intro n
 induction n with
 |zero=>intro h;omega
 |succ n ih=>
  intro _;by_cases hn:n=0
  ·subst hn
   exact ⟨0, by omega, by rw [probeTo]; exact if_pos (Or.inl rfl), fun j hj => by have : j = 0 := by omega
                                                                                  subst this; exact Or.inr ⟨rfl, Nat.le_refl _⟩⟩
  ·obtain ⟨i,hi,h1,h2⟩:=ih (by omega);have hst:probeTo c E k (n+1)=if n=0∨lookD c E k n<(probeTo c E k n).2 then (nextF E (hsh c.key 112 [n] k),lookD c E k n) else probeTo c E k n:=rfl
   rw [hst,h1];by_cases hlt:lookD c E k n<lookD c E k i
   ·rw [if_pos (Or.inr hlt)];refine ⟨n,by omega,rfl,fun j hj=>?_⟩;by_cases hjn:j=n
    ·subst hjn;exact Or.inr ⟨rfl,Nat.le_refl _⟩
    ·have:=h2 j (by omega);exact Or.inl (by omega)
   ·rw [if_neg (by rintro (h|h);exact hn h;exact hlt h)];refine ⟨i,by omega,rfl,fun j hj=>?_⟩;by_cases hjn:j=n
    ·subst hjn;by_cases he:lookD c E k i=lookD c E k j
     ·exact Or.inr ⟨he,by omega⟩
     ·exact Or.inl (by omega)
    ·exact h2 j (by omega)
def eachN (c:Cfg):Int:=if c.alg=2 then c.points else 1
def limF (c:Cfg):Nat:=if c.alg=4 then c.probes.toNat else 1
def CanF (c:Cfg) (B:List BK) (n:ByteArray) (i l:Nat):Prop:=i<limF c∧Cop (eachN c) B n l
def farF (c:Cfg) (k n:ByteArray) (i l:Nat):Int:=
 if c.alg=2 then dist (hsh c.key 114 [l] n) (hsh c.key 107 [] k)
 else if c.alg=4 then dist (hsh c.key 109 [l] n) (hsh c.key 112 [i] k) * 8+i
 else - hsh c.key 104 [(hsh c.key 107 [] k % c.slots).toNat,l] n
theorem rend_own {c:Cfg} {B:List BK} {k:ByteArray} {hk:Int} (hke:hsh c.key 107 [] k=hk) (ha:c.alg=3) (hs:1≤c.slots) (hw:1≤wSum B):(ownerF c B k).1=nameF B (winnerF c.key B (hk % c.slots).toNat):=by
 have h1:=Int.emod_nonneg hk (show c.slots≠0 by omega);have h2:=Int.emod_lt_of_pos hk (show 0<c.slots by omega)
 have hmk:mkF c B=(List.range c.slots.toNat).map fun s=>(0,winnerF c.key B s):=by
  unfold mkF;rw [if_neg (by omega),if_neg (by omega),if_neg (by omega),if_pos ha]
 have hlen:(mkF c B).length=c.slots.toNat:=by rw [hmk,List.length_map,List.length_range]
 have hfi:findF c (mkF c B) k=(hk % c.slots).toNat:=by
  unfold findF;rw [hke,hlen,if_neg (by omega),if_neg (by omega),if_neg (by omega),Int.toNat_of_nonneg (by omega)]
 unfold ownerF;rw [hfi,hmk,List.getElem?_map,List.getElem?_range (by omega),Option.map_some]
theorem rend_min {c:Cfg} {B:List BK} {k:ByteArray} (ha:c.alg=3) (hs:1≤c.slots) (hB:Srt B) (hw:1≤wSum B) (hw0:∀b∈B,0≤b.2):IsMin (CanF c B) (farF c k) (ownerF c B k).1:=by
 obtain ⟨hk,hke⟩:∃x,hsh c.key 107 [] k=x:=⟨_,rfl⟩;rw [rend_own hke ha hs hw];have hea:eachN c=1:=if_neg (by omega);have hli:limF c=1:=if_neg (by omega)
 have hfar:∀n i l,farF c k n i l= - hsh c.key 104 [(hk % c.slots).toNat,l] n:=fun n i l=>by
  unfold farF;rw [if_neg (show ¬c.alg=2 by omega),if_neg (show ¬c.alg=4 by omega),hke]
 obtain ⟨i,q,⟨h3,h4⟩,h5⟩:=winner_min (key:=c.key) (s:=(hk % c.slots).toNat) hB (wSum_pos hw hw0);refine ⟨i,q,⟨by rw [hli,h3];exact Nat.one_pos,by rw [hea];exact h4⟩,?_⟩;rintro m j l ⟨hj,hm⟩;rw [hea] at hm;rw [hli] at hj;rw [hfar,hfar];exact h5 m j l ⟨Nat.lt_one_iff.1 hj,hm⟩
theorem far_lt {a b x:Int} {i j:Nat} (hb:a<b∨(a=b∧i≤j)) (h3:b<x∨b=x) (hij:i≠j) (hi:i<8):a * 8+(i:Int)<x * 8+(j:Int):=by omega
theorem far_same {a x:Int} {i:Nat} (h:a<x):a * 8+(i:Int)<x * 8+(i:Int):=by omega
theorem own_min {c:Cfg} {B:List BK} {k:ByteArray} (ha:c.alg=2∨c.alg=3∨c.alg=4) (hs:1≤c.slots) (hp:1≤c.points) (hq:1≤c.probes∧c.probes≤5) (hB:Srt B) (hw:1≤wSum B) (hw0:∀b∈B,0≤b.2):IsMin (CanF c B) (farF c k) (ownerF c B k).1:=by
 have hwp:=wSum_pos hw hw0;rcases ha with ha|ha|ha
 ·have hmk:mkF c B=pointsF c.key 114 c.points B:=by
   unfold mkF;rw [if_neg (by omega),if_neg (by omega),if_pos ha]
  have hne:=pts_ne (key:=c.key) (letter:=114) hp hwp
  obtain ⟨p,hpl,q,hq,hat,hmin⟩:=pts_min (key:=c.key) (letter:=114) hB hne (hsh c.key 107 [] k) (hsh_range _ _ _ _)
  have hfi:findF c (mkF c B) k=nextF (pointsF c.key 114 c.points B) (hsh c.key 107 [] k):=by
   unfold findF;rw [hmk,if_neg (by omega),if_neg (by omega),if_pos ha]
  have hown:(ownerF c B k).1=B[p].1:=by
   unfold ownerF;rw [hfi,hmk,hat];exact nameF_at hpl
  rw [hown]
  have hea:eachN c=c.points:=if_pos ha
  refine ⟨0,q,⟨by unfold limF;split <;>omega,B[p],List.getElem_mem hpl,rfl,by rw [hea];exact hq⟩,?_⟩
  rintro m j l ⟨_,hm⟩
  rw [hea] at hm
  unfold farF
  rw [if_pos ha,if_pos ha]
  exact hmin m l hm
 ·exact rend_min ha hs hB hw hw0
 ·have hea:eachN c=1:=if_neg (by omega);have hli:limF c=c.probes.toNat:=if_pos ha
  have hmk:mkF c B=pointsF c.key 109 1 B:=by
   unfold mkF;rw [if_neg (by omega),if_neg (by omega),if_neg (by omega),if_neg (by omega),if_pos ha]
  have hne:=pts_ne (key:=c.key) (letter:=109) (each:=1) (Int.le_refl _) hwp
  have hfi:findF c (mkF c B) k=(probeTo c (mkF c B) k c.probes.toNat).1:=by
   unfold findF;rw [if_neg (by rw [hmk];omega),if_pos ha]
  obtain ⟨i,hi,hpr,hbest⟩:=probeTo_spec c (mkF c B) k c.probes.toNat (by omega);rw [hpr] at hfi;have hi8:i<8:=by omega
  have hil:i<limF c:=by rw [hli];exact hi
  have hnot2:¬c.alg=2:=by omega
  have hlook:∀j,∃p,∃(hp:p<B.length),∃q,q<(1 * B[p].2).toNat∧(mkF c B)[nextF (mkF c B) (hsh c.key 112 [j] k)]?=some (hsh c.key 109 [q] B[p].1,(p:Int))∧lookD c (mkF c B) k j=dist (hsh c.key 109 [q] B[p].1) (hsh c.key 112 [j] k)∧
    ∀m l,Cop 1 B m l→dist (hsh c.key 109 [q] B[p].1) (hsh c.key 112 [j] k)<dist (hsh c.key 109 [l] m) (hsh c.key 112 [j] k)∨(dist (hsh c.key 109 [q] B[p].1) (hsh c.key 112 [j] k)=dist (hsh c.key 109 [l] m) (hsh c.key 112 [j] k)∧less m B[p].1=false):=by
   intro j;obtain ⟨p,hpl,q,hq,hat,hmin⟩:=pts_min (key:=c.key) (letter:=109) hB hne (hsh c.key 112 [j] k) (hsh_range _ _ _ _);rw [←hmk] at hat;refine ⟨p,hpl,q,hq,hat,?_,hmin⟩;unfold lookD;rw [List.getD_eq_getElem?_getD,hat];rfl
  obtain ⟨p,hpl,q,hq,hat,hld,hmin⟩:=hlook i
  have hown:(ownerF c B k).1=B[p].1:=by
   unfold ownerF;rw [hfi,hat];exact nameF_at hpl
  rw [hown];refine ⟨i,q,⟨hil,B[p],List.getElem_mem hpl,rfl,by rw [hea];exact hq⟩,?_⟩;rintro m j l ⟨hj,hm⟩;rw [hea] at hm;rw [hli] at hj
  have hfar:∀n i l,farF c k n i l=dist (hsh c.key 109 [l] n) (hsh c.key 112 [i] k) * 8+i:=fun n i l=>by
   unfold farF;rw [if_neg hnot2,if_pos ha]
  rw [hfar,hfar];obtain ⟨p',hp',q',hq',hat',hld',hmin'⟩:=hlook j;have hb:=hbest j hj;have h3:=hmin' m l hm;have h4:=hmin m l hm;rw [hld,hld'] at hb;by_cases hij:i=j
  ·subst hij;rcases h4 with h4|⟨h4,h5⟩
   ·exact Or.inl (far_same h4)
   ·exact Or.inr ⟨by rw [h4],h5⟩
  ·exact Or.inl (far_lt hb (h3.imp (fun h=>h) (fun h=>h.1)) hij hi8)
theorem wSum_ge:∀{B:List BK} {b:BK},b∈B→1≤b.2→(∀b∈B,0≤b.2)→1≤wSum B
 |[],b,h,_,_=>by cases h
 |x::B,b,h,h1,hw=>by
  have hx:=hw x List.mem_cons_self
  have h0:0≤wSum B:=by
   have:∀B:List BK,(∀b∈B,0≤b.2)→0≤wSum B:=fun B=>by
    induction B with
    |nil=>intro _;simp [wSum]
    |cons y B ih=>
     intro h;have h1:=ih (fun x hx=>h x (List.mem_cons_of_mem _ hx));have h2:=h y List.mem_cons_self;simp only [wSum,List.map_cons,List.sum_cons] at h1 ⊢;omega
   exact this B (fun x hx=>hw x (List.mem_cons_of_mem _ hx))
  have hs:wSum (x::B)=x.2+wSum B:=by simp [wSum]
  rcases List.mem_cons.1 h with rfl|h
  ·omega
  ·have:=wSum_ge h h1 (fun x hx=>hw x (List.mem_cons_of_mem _ hx));omega
theorem own_none {c:Cfg} {B:List BK} {k:ByteArray} (h:wSum B<1):(ownerF c B k).1=ByteArray.empty:=by
 unfold ownerF;have:mkF c B=[]:=by unfold mkF;rw [if_pos h]
 rw [this];rfl
theorem own_mono {c:Cfg} {B B':List BK} {k id:ByteArray} (ha:c.alg=2∨c.alg=3∨c.alg=4) (hs:1≤c.slots) (hp:1≤c.points) (hq:1≤c.probes∧c.probes≤5) (hB:Srt B) (hB':Srt B') (hw:∀b∈B,0≤b.2) (hw':∀b∈B',0≤b.2)
  (h1:∀b∈B,∃b'∈B',b'.1=b.1∧b.2≤b'.2) (h2:∀b'∈B',b'.1≠id→b'∈B):(ownerF c B k).1=(ownerF c B' k).1∨(ownerF c B' k).1=id:=by
 have he:0≤eachN c:=by unfold eachN;split <;>omega
 by_cases hW':wSum B'<1
 ·left
  have hW:wSum B<1:=by
   rcases Int.lt_or_le (wSum B) 1 with h|h
   ·exact h
   ·obtain ⟨b,hb,hb1⟩:=wSum_pos h hw;obtain ⟨b',hb',_,hle⟩:=h1 b hb;have:=wSum_ge hb' (by omega) hw';omega
  rw [own_none hW,own_none hW']
 ·have hm':=own_min (k:=k) ha hs hp hq hB' (by omega) hw';by_cases hid:(ownerF c B' k).1=id
  ·exact Or.inr hid
  left
  have hm : IsMin (CanF c B) (farF c k) (ownerF c B' k).1 := hm'.less (by
    rintro m j l ⟨hj, b, hb, rfl, hl⟩
    obtain ⟨b', hb', hn, hle⟩ := h1 b hb
    refine ⟨hj, b', hb', hn, ?_⟩
    have := Int.mul_le_mul_of_nonneg_left hle he
    omega) (by
    rintro j l ⟨hj, b', hb', hn, hl⟩
    exact ⟨hj, b', h2 b' hb' (by rw [hn]; exact hid), hn, hl⟩)
  have hW:1≤wSum B:=by
   obtain ⟨i,l,⟨_,b,hb,_,hl⟩,_⟩:=hm;refine wSum_ge hb ?_ hw;rcases Int.lt_or_le b.2 1 with h|h
   ·have h0:b.2=0:=by have:=hw b hb;omega
    rw [h0,Int.mul_zero] at hl;simp at hl
   ·exact h
  exact (own_min ha hs hp hq hB hW hw).unique hm
end Go.Proofs.YtpapdkhjdelfcabGreat
namespace Go.Proofs.YtpapdkhjdelfcabGreat
open Go.RowKit
theorem lawPool_mem1 {id:ByteArray} {n:Int} {b:BK}:∀{B:List BK} {put:Bool},b∈lawPool id n put B→(b∈B∧b.1≠id)∨(put=false∧b=(id,n))
 |[],put,h=>by
  rw [lawPool] at h;split at h
  ·cases h
  ·rename_i hp;exact Or.inr ⟨by simpa using hp,by simpa using h⟩
 |x::B,put,h=>by
  rw [lawPool,List.mem_append,List.mem_append] at h;rcases h with (h|h)|h
  ·split at h
   ·rename_i hc;exact Or.inr ⟨hc.1,by simpa using h⟩
   ·cases h
  ·split at h
   ·rename_i hc;have:b=x:=by simpa using h
    subst this;exact Or.inl ⟨List.mem_cons_self,hc⟩
   ·cases h
  ·rcases lawPool_mem1 h with ⟨h1,h2⟩|⟨h1,h2⟩
   ·exact Or.inl ⟨List.mem_cons_of_mem _ h1,h2⟩
   ·refine Or.inr ⟨?_,h2⟩;split at h1
    ·cases h1
    ·exact h1
theorem lawPool_mem2 {id:ByteArray} {n:Int} {b:BK} (hb:b.1≠id):∀{B:List BK} {put:Bool},b∈B→b∈lawPool id n put B
 |[],_,h=>by cases h
 |x::B,put,h=>by
  rw [lawPool,List.mem_append,List.mem_append];rcases List.mem_cons.1 h with rfl|h
  ·exact Or.inl (Or.inr (by rw [if_pos hb];exact List.mem_singleton.2 rfl))
  ·exact Or.inr (lawPool_mem2 hb h)
theorem lawPool_mem3 {id:ByteArray} {n:Int}:∀{B:List BK},(id,n)∈lawPool id n false B
 |[]=>by rw [lawPool];simp
 |x::B=>by
  rw [lawPool,List.mem_append,List.mem_append];by_cases hl:less x.1 id=false
  ·exact Or.inl (Or.inl (by rw [if_pos ⟨rfl,hl⟩];exact List.mem_singleton.2 rfl))
  ·refine Or.inr ?_;rw [if_neg hl];exact lawPool_mem3
theorem weightF_of {B:List BK} (hs:Srt B) {b:BK} (hb:b∈B):weightF B b.1=b.2:=by
 obtain ⟨i,hi,rfl⟩:=List.mem_iff_getElem.1 hb;rw [weightF,atName_at hs hi,List.getElem?_eq_getElem hi]
theorem weightF_mem {B:List BK} {id:ByteArray} (h:0≤weightF B id):(id,weightF B id)∈B:=by
 unfold weightF at h ⊢;by_cases hl:atName id B<B.length
 ·rw [List.getElem?_eq_getElem hl];have h1:=List.findIdx_getElem (xs:=B) (p:=fun b:BK=>b.1.toList==id.toList) (w:=hl);have h2:B[atName id B].1=id:=str_eq.1 h1;show (id,B[atName id B].2)∈B;have:(id,B[atName id B].2)=B[atName id B]:=Prod.ext h2.symm rfl;rw [this];exact List.getElem_mem hl
 ·rw [List.getElem?_eq_none (by omega)] at h;exact absurd h (by decide)
theorem mvAll:MvAll:=by
 intro c B g id was now hc hB hB' ha hwas hwn hn1 hn6 hg hg0 k _
 have e1:(localF c B g (keyF k)).1=(ownerF c B (keyF k)).1:=by
  unfold localF;split
  ·rename_i h0;rw [hg h0];exact (own_none (by simp [wSum])).symm
  ·rfl
 have e2:(localF c (lawPool id now (decide (now<0)) B) (g+1) (keyF k)).1=(ownerF c (lawPool id now (decide (now<0)) B) (keyF k)).1:=by
  unfold localF;rw [if_neg (by omega)]
 rw [e1,e2];have hal:c.alg=2∨c.alg=3∨c.alg=4:=by have:=hc.1;have:=hc.2.1;omega
 have hsl:1≤c.slots:=by have:=hc.2.2.1;omega
 have hpt:1≤c.points:=hc.2.2.2.2.2.1;have hpr:1≤c.probes∧c.probes≤5:=⟨hc.2.2.2.2.2.2.2.1,hc.2.2.2.2.2.2.2.2.1⟩;have hw:∀b∈B,0≤b.2:=fun b hb=>(hB.1.2 b hb).2.2.1
 have hw':∀b∈lawPool id now (decide (now<0)) B,0≤b.2:=fun b hb=>(hB'.1.2 b hb).2.2.1
 rcases Int.lt_trichotomy was now with h|h|h
 ·have hd : decide (now < 0) = false := decide_eq_false (by
    have : -1 ≤ was := by
      rw [hwas]
      unfold weightF
      split
      · rename_i b hb
        have := hw b (List.mem_of_getElem? hb)
        omega
      · omega
    omega)
  rw [hd] at hB' hw' ⊢
  rcases own_mono (k := keyF k) (id := id) hal hsl hpt hpr hB.2 hB'.2 hw hw' (fun b hb => by
    by_cases hid : b.1 = id
    · subst hid
      have := weightF_of hB.2 hb
      exact ⟨(b.1, now), lawPool_mem3, rfl, by simp only; omega⟩
    · exact ⟨b, lawPool_mem2 hid hb, rfl, Int.le_refl _⟩) (fun b hb hid => by
    rcases lawPool_mem1 hb with ⟨h1, _⟩ | ⟨_, h1⟩
    · exact h1
    · exact absurd (by rw [h1]) hid) with e | e
  ·exact Or.inl e
  ·exact Or.inr (by
     rintro (⟨_, h1⟩ | ⟨h1, _⟩ | h1)
     · exact h1 e
     · omega
     · omega)
 ·left;have hw0:0≤weightF B id:=by omega
  have hd:decide (now<0)=false:=decide_eq_false (by omega);rw [hd];obtain ⟨p,hp,he⟩:=List.mem_iff_getElem.1 (weightF_mem hw0)
  have:lawPool id now false B=B:=by
   rw [lawPool_set hB.2 hp (by rw [he])];rw [show (id,now)=B[p] by rw [he,←hwas,h]];exact List.set_getElem_self hp
  rw [this]
 ·have hw0:0≤weightF B id:=by omega
  rcases own_mono (k := keyF k) (id := id) hal hsl hpt hpr hB'.2 hB.2 hw' hw (fun b hb => by
    rcases lawPool_mem1 hb with ⟨h1, h2⟩ | ⟨_, h1⟩
    · exact ⟨b, h1, rfl, Int.le_refl _⟩
    · subst h1
      exact ⟨_, weightF_mem hw0, rfl, by simp only; omega⟩) (fun b hb hid => lawPool_mem2 hid hb) with e | e
  ·exact Or.inl e.symm
  ·exact Or.inr (by
     rintro (⟨h1, _⟩ | ⟨_, h1⟩ | h1)
     · omega
     · exact h1 e
     · omega)
end Go.Proofs.YtpapdkhjdelfcabGreat
