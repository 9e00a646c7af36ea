import Derived.Test.YtpapdkhjdelfcabGreatHBK
import Derived.Test.YtpapdkhjdelfcabGreatHBL
import Derived.Test.YtpapdkhjdelfcabGreatHBH
import Derived.Test.YtpapdkhjdelfcabGreatHAH
set_option maxRecDepth 100000
set_option maxHeartbeats 4000000
namespace Go.Proofs.YtpapdkhjdelfcabGreat
open Go.RowKit
theorem wSum_nn:∀B:List BK,(∀b∈B,0≤b.2)→0≤wSum B
 |[],_=>by simp [wSum]
 |b::B,h=>by
  have h1:=wSum_nn B (fun x hx=>h x (List.mem_cons_of_mem _ hx));have h2:=h b List.mem_cons_self;simp only [wSum,List.map_cons,List.sum_cons] at h1 ⊢;omega
theorem row_full {l:Nat} {S:List Int} (h:RowOK l S) (hs:sumN (fun i=>S.count (i:Int)) l=S.length):∀x∈S,∃i:Nat,i<l∧x=(i:Int):=by
 have h1:∀x∈S.filter (fun x=>x != -1),∃i:Nat,i<l∧x=(i:Int):=fun x hx=>by
  obtain ⟨hx1,hx2⟩:=List.mem_filter.1 hx;rcases h x hx1 with e|e
  ·rw [e] at hx2;exact absurd hx2 (by decide)
  ·exact e
 have h2:=len_sum l _ h1;have h3:sumN (fun i=>(S.filter (fun x=>x != -1)).count (i:Int)) l=sumN (fun i=>S.count (i:Int)) l:=sumN_congr _ _ _ fun i _=>List.count_filter (by rw [bne_iff_ne];omega)
 rw [h3,hs] at h2;have h4:=List.length_filter_eq_length_iff.1 h2;intro x hx;exact h1 x (List.mem_filter.2 ⟨hx,h4 x hx⟩)
theorem mag_right {c:Cfg} {B:List BK} (hc:c.OK) (hB:Good B) (hW:1≤wSum B):(maglevF c B).length=c.slots.toNat∧∀o∈maglevF c B,ServE B o:=by
 have hw:∀b∈B,0≤b.2:=fun b hb=>(hB.1.2 b hb).2.2.1
 have hc3:=hc.2.2.1;obtain ⟨n,hn⟩:=Int.eq_ofNat_of_zero_le (show 0≤c.slots by omega);have hn3:3≤n:=by omega
 have hpr : ∀ d : Nat, 2 ≤ d → d < n → n % d ≠ 0 := fun d h1 h2 h3 => hc.2.2.2.2.1 d h1 (by omega) (by
   rw [hn]
   have : (n : Int) % (d : Int) = ((n % d : Nat) : Int) := by simp
   rw [this, h3]; rfl)
 obtain ⟨s1,s2,s3⟩:=shares_spec c.slots B (by omega) hw hW
 have hWy:∀i,i<(sharesF c.slots B).length→WayOK n ((B.map (wayOf c)).getD i (0,0)):=fun i hi=>by
  rw [List.getD_eq_getElem?_getD,List.getElem?_map,List.getElem?_eq_getElem (by omega)];have h1:=restF_range (hsh c.key 111 [] B[i].1) c.slots (by omega);have h2:=restF_range (hsh c.key 115 [] B[i].1) (c.slots - 1) (by omega);refine ⟨h1.1,?_,?_⟩
  ·show 1≤restF (hsh c.key 115 [] B[i].1) (c.slots - 1)+1;omega
  ·show restF (hsh c.key 115 [] B[i].1) (c.slots - 1)+1<(n:Int);omega
 have hsum:sumN (shN (sharesF c.slots B)) (sharesF c.slots B).length=n:=by
  have:=sumN_list _ (sharesF c.slots B) rfl (fun j hj=>(s3 j (by omega)).1);omega
 obtain ⟨r1,r2⟩:=fill_all (W:=B.map (wayOf c)) (sh:=sharesF c.slots B) hpr (by omega) hWy hsum;have hS:maglevF c B=fillTo (B.map (wayOf c)) (sharesF c.slots B) (List.replicate n (-1)) n:=by unfold maglevF;rw [show c.slots.toNat=n by omega]
 have hlen:(maglevF c B).length=n:=by rw [hS,fillTo_len,List.length_replicate]
 rw [←hS] at r1 r2;refine ⟨by rw [hlen];omega,?_⟩;have hfull:=row_full r1 (by rw [hlen,sumN_congr _ _ _ (fun i hi=>r2 i hi)];exact hsum);intro o ho;obtain ⟨i,hi,rfl⟩:=hfull o ho;have hi2:i<B.length:=by omega
 refine ⟨i,hi2,rfl,?_⟩;have hcnt:1≤(maglevF c B).count (i:Int):=List.count_pos_iff.2 ho;rw [r2 i hi] at hcnt;have h3:=s3 i hi2;unfold shN at hcnt
 have hlo:(lowF c.slots B).getD i 0=c.slots * B[i].2 / wSum B:=by
  unfold lowF;rw [List.getD_eq_getElem?_getD,List.getElem?_map,List.getElem?_eq_getElem hi2];rfl
 have hre:(remF c.slots B).getD i 0=c.slots * B[i].2 % wSum B:=by
  unfold remF;rw [List.getD_eq_getElem?_getD,List.getElem?_map,List.getElem?_eq_getElem hi2];rfl
 rw [hlo,hre] at h3;have hw0:=hw _ (List.getElem_mem hi2);rcases Int.lt_or_eq_of_le hw0 with h|h
 ·exact h
 ·exfalso;rw [←h,Int.mul_zero,Int.zero_ediv,Int.zero_emod] at h3;omega
theorem winTo_sv (key:ByteArray) (s i:Nat) (id:ByteArray) (m:Int×Int):∀k,((winTo key s i id m k).1=m.1∧(k=0∨0≤m.1))∨((winTo key s i id m k).1=(i:Int)∧0<k)
 |0=>Or.inl ⟨rfl,Or.inl rfl⟩
 |k+1=>by
  have ih:=winTo_sv key s i id m k;rw [winTo];split
  ·exact Or.inr ⟨rfl,Nat.succ_pos _⟩
  ·rename_i hc;rcases ih with ⟨h1,h2⟩|⟨h1,h2⟩
   ·refine Or.inl ⟨h1,Or.inr ?_⟩;rw [h1] at hc;omega
   ·exact Or.inr ⟨h1,Nat.succ_pos _⟩
theorem winnerTo_sv (key:ByteArray) (s:Nat) (B:List BK):∀n,n≤B.length→((winnerTo key s B n).1= -1∧∀j (h:j<B.length),j<n→B[j].2≤0)∨∃(j:Nat) (h:j<B.length),(winnerTo key s B n).1=(j:Int)∧0<B[j].2
 |0,_=>Or.inl ⟨rfl,fun j _ h=>by omega⟩
 |n+1,hn=>by
  have hlt:n<B.length:=by omega
  have ih:=winnerTo_sv key s B n (by omega);rw [winnerTo,List.getElem?_eq_getElem hlt];dsimp only;rcases winTo_sv key s n B[n].1 (winnerTo key s B n) B[n].2.toNat with ⟨h1,h2⟩|⟨h1,h2⟩
  ·rcases ih with ⟨i1,i2⟩|⟨j,hj,i1,i2⟩
   ·refine Or.inl ⟨by rw [h1];exact i1,fun j hj hjn=>?_⟩;rcases h2 with h2|h2
    ·by_cases e:j=n
     ·subst e;omega
     ·exact i2 j hj (by omega)
    ·omega
   ·exact Or.inr ⟨j,hj,by rw [h1];exact i1,i2⟩
  ·exact Or.inr ⟨n,hlt,h1,by omega⟩
theorem wSum_zero:∀B:List BK,(∀b∈B,b.2≤0)→wSum B≤0
 |[],_=>by simp [wSum]
 |b::B,h=>by
  have h1:=wSum_zero B (fun x hx=>h x (List.mem_cons_of_mem _ hx));have h2:=h b List.mem_cons_self;simp only [wSum,List.map_cons,List.sum_cons] at h1 ⊢;omega
theorem winner_serv (key:ByteArray) {B:List BK} (hW:1≤wSum B) (s:Nat):ServE B (winnerF key B s):=by
 unfold winnerF;rcases winnerTo_sv key s B B.length (Nat.le_refl _) with ⟨_,h⟩|h
 ·have:=wSum_zero B (fun b hb=>by obtain ⟨j,hj,rfl⟩:=List.getElem_of_mem hb;exact h j hj hj);omega
 ·exact h
def Le2 (a b:EI):Prop:=a.1<b.1∨(a.1=b.1∧a.2≤b.2)
theorem insE_perm (e:EI):∀l:List EI,(insE e l).Perm (e::l)
 |[]=>List.Perm.refl _
 |x::l=>by
  rw [insE];split
  ·exact List.Perm.refl _
  ·exact (List.Perm.cons x (insE_perm e l)).trans (List.Perm.swap e x l)
theorem insE_le {e:EI}:∀{l:List EI},l.Pairwise Le2→(∀x∈l,x.2≤e.2)→(insE e l).Pairwise Le2
 |[],_,_=>List.pairwise_singleton _ _
 |x::l,h,hx=>by
  rw [insE];obtain ⟨h1,h2⟩:=List.pairwise_cons.1 h;split
  ·rename_i hlt;refine List.pairwise_cons.2 ⟨fun y hy=>?_,h⟩;rcases List.mem_cons.1 hy with rfl|hy
   ·exact Or.inl hlt
   ·rcases h1 y hy with k|k
    ·exact Or.inl (by omega)
    ·exact Or.inl (by omega)
  ·rename_i hge;refine List.pairwise_cons.2 ⟨fun y hy=>?_,insE_le h2 (fun z hz=>hx z (List.mem_cons_of_mem _ hz))⟩;rcases List.mem_cons.1 ((insE_perm e l).mem_iff.1 hy) with rfl|hy
   ·have:=hx x List.mem_cons_self;unfold Le2;omega
   ·exact h1 y hy
theorem sortTo_perm (L:List EI):∀n,n≤L.length→(sortTo L n).Perm (L.take n)
 |0,_=>by rw [sortTo];simp
 |n+1,hn=>by
  have hlt:n<L.length:=by omega
  rw [sortTo,List.getElem?_eq_getElem hlt,List.take_succ_eq_append_getElem hlt];dsimp only;exact (insE_perm _ _).trans ((List.Perm.cons _ (sortTo_perm L n (by omega))).trans (List.perm_append_singleton _ _).symm)
theorem sortTo_le (L:List EI) (hL:L.Pairwise fun a b=>a.2≤b.2):∀n,n≤L.length→(sortTo L n).Pairwise Le2
 |0,_=>by rw [sortTo];exact List.Pairwise.nil
 |n+1,hn=>by
  have hlt:n<L.length:=by omega
  rw [sortTo,List.getElem?_eq_getElem hlt];dsimp only;refine insE_le (sortTo_le L hL n (by omega)) (fun x hx=>?_);have hx2:=(sortTo_perm L n (by omega)).mem_iff.1 hx;obtain ⟨j,hj,rfl⟩:=List.getElem_of_mem hx2;rw [List.length_take] at hj;rw [List.getElem_take];exact List.pairwise_iff_getElem.1 hL j n (by omega) hlt (by omega)
theorem ptsTo_step (key:ByteArray) (letter:UInt8) (each:Int) {B:List BK} {n:Nat} (h:n<B.length):ptsTo key letter each B (n+1)=ptsTo key letter each B n++ptsOf key letter each n B[n]:=by
 rw [ptsTo,List.getElem?_eq_getElem h]
theorem ptsOf_two {key:ByteArray} {letter:UInt8} {each:Int} {i:Nat} {b:BK} {e:EI} (h:e∈ptsOf key letter each i b):e.2=(i:Int)∧0<(each * b.2).toNat:=by
 unfold ptsOf at h;obtain ⟨k,hk,rfl⟩:=List.mem_map.1 h;exact ⟨rfl,by have:=List.mem_range.1 hk;omega⟩
theorem ptsTo_mem {key:ByteArray} {letter:UInt8} {each:Int} {B:List BK}:∀n,n≤B.length→∀e∈ptsTo key letter each B n,∃(j:Nat) (h:j<B.length),j<n∧e.2=(j:Int)∧0<(each * B[j].2).toNat
 |0,_=>by simp [ptsTo]
 |n+1,hn=>by
  intro e he;rw [ptsTo_step key letter each (by omega)] at he;rcases List.mem_append.1 he with he|he
  ·obtain ⟨j,h1,h2,h3⟩:=ptsTo_mem n (by omega) e he;exact ⟨j,h1,by omega,h3⟩
  ·obtain ⟨h1,h2⟩:=ptsOf_two he;exact ⟨n,by omega,by omega,h1,h2⟩
theorem ptsTo_up {key:ByteArray} {letter:UInt8} {each:Int} {B:List BK}:∀n,n≤B.length→(ptsTo key letter each B n).Pairwise fun a b=>a.2≤b.2
 |0,_=>by rw [ptsTo];exact List.Pairwise.nil
 |n+1,hn=>by
  rw [ptsTo_step key letter each (by omega)];refine List.pairwise_append.2 ⟨ptsTo_up n (by omega),?_,fun a ha b hb=>?_⟩
  ·refine List.pairwise_iff_getElem.2 fun i j hi hj _=>?_
   have e1:=(ptsOf_two (List.getElem_mem hi)).1;have e2:=(ptsOf_two (List.getElem_mem hj)).1;omega
  ·obtain ⟨j,h1,h2,h3,_⟩:=ptsTo_mem n (by omega) a ha;have:=(ptsOf_two hb).1;omega
theorem ptsOf_cnt (key:ByteArray) (letter:UInt8) (each:Int) (i:Nat) (b:BK) (k:Nat):cntE (ptsOf key letter each i b) k=if i=k then (each * b.2).toNat else 0:=by
 unfold cntE;by_cases h:i=k
 ·rw [if_pos h,List.countP_eq_length.2]
  ·unfold ptsOf;simp
  ·intro e he;rw [(ptsOf_two he).1,beq_iff_eq];omega
 ·rw [if_neg h,List.countP_eq_zero.2];intro e he;rw [(ptsOf_two he).1,beq_iff_eq];omega
theorem ptsTo_cnt (key:ByteArray) (letter:UInt8) (each:Int) (B:List BK) (k:Nat) (hk:k<B.length):∀n,n≤B.length→cntE (ptsTo key letter each B n) k=if k<n then (each * B[k].2).toNat else 0
 |0,_=>by simp [ptsTo,cntE]
 |n+1,hn=>by
  have ih:=ptsTo_cnt key letter each B k hk n (by omega);rw [ptsTo_step key letter each (by omega),cntE,List.countP_append];show cntE _ k+cntE _ k=_;rw [ih,ptsOf_cnt];by_cases h1:k<n
  ·rw [if_pos h1,if_neg (by omega),if_pos (by omega)];rfl
  ·by_cases h2:n=k
   ·subst h2;rw [if_neg h1,if_pos rfl,if_pos (by omega)];omega
   ·rw [if_neg h1,if_neg h2,if_neg (by omega)]
theorem ptsTo_lenI {key:ByteArray} {letter:UInt8} {each:Int} {B:List BK} (he:0≤each) (hB:∀b∈B,0≤b.2):∀n,n≤B.length→((ptsTo key letter each B n).length:Int)=each * wSum (B.take n)
 |0,_=>by simp [ptsTo,wSum]
 |n+1,hn=>by
  have hlt:n<B.length:=by omega
  have ih:=ptsTo_lenI (key:=key) (letter:=letter) he hB n (by omega);have hp:0≤each * B[n].2:=Int.mul_nonneg he (hB _ (List.getElem_mem hlt));rw [ptsTo_step key letter each hlt,List.length_append,wSum_take B n hlt,Int.mul_add,←ih]
  have:((ptsOf key letter each n B[n]).length:Int)=each * B[n].2:=by
   unfold ptsOf;rw [List.length_map,List.length_range,Int.toNat_of_nonneg hp]
  omega
theorem points_right {key:ByteArray} {letter:UInt8} {each:Int} {B:List BK} (he:0≤each) (hB:∀b∈B,0≤b.2):((pointsF key letter each B).length:Int)=each * wSum B∧(∀e∈pointsF key letter each B,ServE B e.2)∧RiseE (pointsF key letter each B)∧∀j (h:j<B.length),(cntE (pointsF key letter each B) j:Int)=each * B[j].2:=by
 have hp:(pointsF key letter each B).Perm (ptsTo key letter each B B.length):=by
  have:=sortTo_perm (ptsTo key letter each B B.length) _ (Nat.le_refl _);rwa [List.take_length] at this
 refine ⟨?_,fun e h=>?_,?_,fun j h=>?_⟩
 ·rw [hp.length_eq,ptsTo_lenI he hB _ (Nat.le_refl _),List.take_length]
 ·obtain ⟨j,h1, -,h2,h3⟩:=ptsTo_mem B.length (Nat.le_refl _) e (hp.mem_iff.1 h);refine ⟨j,h1,h2,?_⟩;have hw:=hB _ (List.getElem_mem h1);rcases Int.lt_or_eq_of_le hw with k|k
  ·exact k
  ·rw [←k,Int.mul_zero] at h3;exact absurd h3 (by decide)
 ·have:=sortTo_le _ (ptsTo_up (key:=key) (letter:=letter) (each:=each) (B:=B) _ (Nat.le_refl _)) _ (Nat.le_refl _);intro i hi;have h1:=List.pairwise_iff_getElem.1 this i (i+1) (by have:i+1<(pointsF key letter each B).length:=hi;unfold pointsF at this;omega) hi (by omega);unfold Up2;have h2:Le2 (pointsF key letter each B)[i] (pointsF key letter each B)[i+1]:=h1;unfold Le2 at h2;omega
 ·unfold cntE;rw [hp.countP_eq];have:=ptsTo_cnt key letter each B j h B.length (Nat.le_refl _);unfold cntE at this;rw [this,if_pos h,Int.toNat_of_nonneg (Int.mul_nonneg he (hB _ (List.getElem_mem h)))]
theorem mkF_right {c:Cfg} {B:List BK} (hc:c.OK) (hB:Good B):RightT c B (mkF c B):=by
 have hw:∀b∈B,0≤b.2:=fun b hb=>(hB.1.2 b hb).2.2.1
 have ha1:=hc.1;have ha4:=hc.2.1;by_cases hW:wSum B<1
 ·have e:mkF c B=[]:=by rw [mkF,if_pos hW]
  rw [e];refine ⟨?_,?_,?_⟩
  ·rw [cntF,if_pos hW];rfl
  ·intro e he;cases he
  intro _;refine ⟨fun i hi=>absurd hi (by simp),fun j h=>?_⟩;have hz:=wSum_nn B hw
  have hj:B[j].2=0:=by
   have h1:=wSum_take B j h;have h0:=hw _ (List.getElem_mem h);have h2:=wSum_nn (B.take j) (fun b hb=>hw b (List.mem_of_mem_take hb));have h3:=wSum_nn (B.drop (j+1)) (fun b hb=>hw b (List.mem_of_mem_drop hb))
   have h4:wSum B=wSum (B.take (j+1))+wSum (B.drop (j+1)):=by
    unfold wSum;rw [←List.sum_append,←List.map_append,List.take_append_drop]
   omega
  rw [hj,Int.mul_zero];rfl
 have hW1:1≤wSum B:=by omega
 have hsl:=hc.2.2.1;by_cases h1:c.alg=1
 ·obtain ⟨m1,m2⟩:=mag_right hc hB hW1;have e:mkF c B=(maglevF c B).map fun o=>(0,o):=by rw [mkF,if_neg hW,if_pos h1]
  have hp:hasP c.alg=false:=by rw [h1];rfl
  rw [e];refine ⟨?_,fun x hx=>?_,fun h=>by rw [hp] at h;cases h⟩
  ·rw [List.length_map,m1,cntF,if_neg hW,hp,Int.toNat_of_nonneg (by omega)];rfl
  ·obtain ⟨o,ho,rfl⟩:=List.mem_map.1 hx;exact m2 o ho
 by_cases h2:c.alg=2
 ·have e:mkF c B=pointsF c.key 114 c.points B:=by rw [mkF,if_neg hW,if_neg h1,if_pos h2]
  have hp:hasP c.alg=true:=by rw [h2];rfl
  have he:eachF c=c.points:=by rw [eachF,if_pos h2]
  have hpt:=hc.2.2.2.2.2.1;obtain ⟨p1,p2,p3,p4⟩:=points_right (key:=c.key) (letter:=114) (each:=c.points) (B:=B) (by omega) hw;rw [e];refine ⟨by rw [p1,cntF,if_neg hW,hp,he];rfl,p2,fun _=>⟨p3,fun j h=>by rw [he];exact p4 j h⟩⟩
 by_cases h3:c.alg=3
 ·have e:mkF c B=(List.range c.slots.toNat).map fun s=>(0,winnerF c.key B s):=by rw [mkF,if_neg hW,if_neg h1,if_neg h2,if_pos h3]
  have hp:hasP c.alg=false:=by rw [h3];rfl
  rw [e];refine ⟨?_,fun x hx=>?_,fun h=>by rw [hp] at h;cases h⟩
  ·rw [List.length_map,List.length_range,cntF,if_neg hW,hp,Int.toNat_of_nonneg (by omega)];rfl
  ·obtain ⟨s, -,rfl⟩:=List.mem_map.1 hx;exact winner_serv c.key hW1 s
 ·have h4:c.alg=4:=by omega
  have e:mkF c B=pointsF c.key 109 1 B:=by rw [mkF,if_neg hW,if_neg h1,if_neg h2,if_neg h3,if_pos h4]
  have hp:hasP c.alg=true:=by rw [h4];rfl
  have he:eachF c=1:=by rw [eachF,if_neg h2]
  obtain ⟨p1,p2,p3,p4⟩:=points_right (key:=c.key) (letter:=109) (each:=1) (B:=B) (by omega) hw;rw [e];refine ⟨by rw [p1,cntF,if_neg hW,hp,he];rfl,p2,fun _=>⟨p3,fun j h=>by rw [he];exact p4 j h⟩⟩
theorem mkF_enW {c:Cfg} {B:List BK} (hc:c.OK) (hB:Good B):∀e∈mkF c B,EnW c.alg B.length e:=fun e he=>by
 have h1:=mkF_in c B e he;obtain ⟨j,hj,h2, -⟩:=(mkF_right hc hB).2.1 e he;refine ⟨h1.1.1,h1.1.2,fun hp=>?_,by omega,by omega⟩;rw [mkF] at he;split at he
 ·cases he
 split at he
 ·obtain ⟨o, -,rfl⟩:=List.mem_map.1 he;rfl
 split at he
 ·rename_i h3;rw [h3] at hp;cases hp
 split at he
 ·obtain ⟨o, -,rfl⟩:=List.mem_map.1 he;rfl
 split at he
 ·rename_i h3;rw [h3] at hp;cases hp
 ·cases he
theorem simage_round {f g:Nat} {c:Cfg} {B:List BK} (hf:1≤f∧f≤2) (hc:c.OK) (hB:Good B) (hg:1≤g∧g≤1073741824):imageP (imageB f g c B (mkF c B))=some (f,g,{c with formats:=0},B,mkF c B):=
 image_round hf ((Cfg.ok_iff c).1 hc).1 hB (mkF_enW hc hB) (by
   have h1 := (mkF_right hc hB).1
   have h2 := wSum_le hB.1
   have h3 := ((Cfg.ok_iff c).1 hc).1
   have h4 := eachF_le h3
   have h5 : cntF c B ≤ 300 := by
     unfold cntF
     have h6 := hc.2.2.2.1
     split
     · omega
     · split
       · have : eachF c * wSum B ≤ 3 * 48 := Int.mul_le_mul h4.2 h2.2 h2.1 (by omega)
         omega
       · omega
   omega) ⟨hg, mkF_right hc hB⟩
end Go.Proofs.YtpapdkhjdelfcabGreat
namespace Go.Proofs.YtpapdkhjdelfcabGreat
open Go.RowKit
theorem xor4 (a b P:BitVec 32):a ^^^ b=a ^^^ P ^^^ (b ^^^ P):=by
 apply BitVec.eq_of_getLsbD_eq;intro i hi;rw [BitVec.getLsbD_xor,BitVec.getLsbD_xor,BitVec.getLsbD_xor,BitVec.getLsbD_xor];cases a.getLsbD i <;>cases b.getLsbD i <;>cases P.getLsbD i <;>rfl
theorem cStep_lin (x y:BitVec 32):cStep (x ^^^ y)=cStep x ^^^ cStep y:=by
 unfold cStep
 have hsh:(x ^^^ y)>>>1=(x>>>1) ^^^ (y>>>1):=by
  apply BitVec.eq_of_getLsbD_eq;intro i hi;simp
 rw [hsh,BitVec.getLsbD_xor];generalize x>>>1=a;generalize y>>>1=b;cases x.getLsbD 0 <;>cases y.getLsbD 0
 ·simp
 ·simp only [Bool.false_bne,Bool.false_eq_true,if_false,if_true,BitVec.xor_zero];rw [BitVec.xor_assoc]
 ·simp only [Bool.bne_false,Bool.false_eq_true,if_false,if_true,BitVec.xor_zero];rw [BitVec.xor_assoc,BitVec.xor_comm b,←BitVec.xor_assoc]
 ·simp only [bne_self_eq_false,Bool.false_eq_true,if_false,if_true,BitVec.xor_zero];exact xor4 _ _ _
theorem cStep_zero {z:BitVec 32} (h:cStep z=0#32):z=0#32:=by
 unfold cStep at h;have h31:((z>>>1) ^^^ (if z.getLsbD 0 then 0xEDB88320#32 else 0#32)).getLsbD 31=false:=by rw [h];rfl
 rw [BitVec.getLsbD_xor,BitVec.getLsbD_ushiftRight] at h31;have hz:z.getLsbD (1+31)=false:=BitVec.getLsbD_of_ge _ _ (by omega);rw [hz] at h31;cases h0:z.getLsbD 0
 ·rw [h0] at h;simp only [Bool.false_eq_true,if_false,BitVec.xor_zero] at h;apply BitVec.eq_of_getLsbD_eq;intro i hi;rw [BitVec.getLsbD_zero];cases i with
  |zero=>exact h0
  |succ i=>
   have:(z>>>1).getLsbD i=false:=by rw [h];exact BitVec.getLsbD_zero
   rw [BitVec.getLsbD_ushiftRight,Nat.add_comm] at this;exact this
 ·rw [h0] at h31;simp only [if_true] at h31;exact absurd h31 (by decide)
theorem cStep_inj {x y:BitVec 32} (h:cStep x=cStep y):x=y:=by
 have h1:cStep (x ^^^ y)=0#32:=by rw [cStep_lin,h,BitVec.xor_self]
 have h2:=cStep_zero h1;have h3:x ^^^ y ^^^ y=0#32 ^^^ y:=by rw [h2]
 rwa [BitVec.xor_assoc,BitVec.xor_self,BitVec.xor_zero,BitVec.zero_xor] at h3
theorem stepN_in (c:BitVec 32) (j:Nat):stepN (cStep c) j=cStep (stepN c j):=by
 induction j with
 |zero=>rfl
 |succ j ih=>rw [stepN,ih];rfl
theorem stepN_inj {x y:BitVec 32} (j:Nat) (h:stepN x j=stepN y j):x=y:=by
 induction j with
 |zero=>exact h
 |succ j ih=>exact ih (cStep_inj h)
def bit1 (d:Bool):BitVec 32:=if d then 1#32 else 0#32
def aStep (c:BitVec 32) (d:Bool):BitVec 32:=cStep (c ^^^ bit1 d)
def numE:List Bool→BitVec 32
 |[]=>0#32
 |d::ds=>bit1 d ^^^ (numE ds<<<1)
theorem bit1_get (d:Bool) (i:Nat):(bit1 d).getLsbD i=(d && decide (i=0)):=by
 cases d
 ·simp [bit1]
 ·simp only [bit1,if_true,Bool.true_and];rw [BitVec.getLsbD_one];simp
theorem numE_get (ds:List Bool) (i:Nat) (hi:i<32):(numE ds).getLsbD i=(ds[i]?).getD false:=by
 induction ds generalizing i with
 |nil=>simp [numE]
 |cons d ds ih=>
  rw [numE,BitVec.getLsbD_xor,bit1_get,BitVec.getLsbD_shiftLeft];cases i with
  |zero=>simp
  |succ i=>
   have:=ih i (by omega);simp [this,hi]
theorem numE_inj {a b:List Bool} (hl:a.length=b.length) (h32:a.length≤32) (h:numE a=numE b):a=b:=by
 apply List.ext_getElem hl;intro i h1 h2;have e1:=numE_get a i (by omega);have e2:=numE_get b i (by omega);rw [h,e2] at e1;simpa [h1,h2] using e1.symm
theorem shl_back {x:BitVec 32} (h:x.getLsbD 31=false):(x<<<1)>>>1=x:=by
 apply BitVec.eq_of_getLsbD_eq;intro i hi;rw [BitVec.getLsbD_ushiftRight,BitVec.getLsbD_shiftLeft];by_cases h31:i=31
 ·subst h31;rw [h];simp
 ·have:1+i<32:=by omega
  simp [this]
theorem cStep_shl {x:BitVec 32} (h:x.getLsbD 31=false):cStep (x<<<1)=x:=by
 unfold cStep;have h0:(x<<<1).getLsbD 0=false:=by rw [BitVec.getLsbD_shiftLeft];simp
 rw [h0,shl_back h];simp
theorem absorb_is (ds:List Bool) (c:BitVec 32) (h:ds.length≤32):ds.foldl aStep c=stepN (c ^^^ numE ds) ds.length:=by
 induction ds generalizing c with
 |nil=>simp [numE,stepN]
 |cons d ds ih=>
  rw [List.foldl_cons,ih _ (by simp only [List.length_cons] at h;omega),List.length_cons,stepN,←stepN_in];congr 1
  have h31:(numE ds).getLsbD 31=false:=by
   rw [numE_get ds 31 (by omega),List.getElem?_eq_none (by simp only [List.length_cons] at h;omega)];rfl
  rw [numE,←BitVec.xor_assoc,cStep_lin (c ^^^ bit1 d),cStep_shl h31];rfl
theorem fold_inj (ds:List Bool) {x y:BitVec 32} (h:ds.foldl aStep x=ds.foldl aStep y):x=y:=by
 induction ds generalizing x y with
 |nil=>exact h
 |cons d ds ih=>
  have h1:=cStep_inj (ih h);have h3:x ^^^ bit1 d ^^^ bit1 d=y ^^^ bit1 d ^^^ bit1 d:=by rw [h1]
  rwa [BitVec.xor_assoc,BitVec.xor_assoc,BitVec.xor_self,BitVec.xor_zero,BitVec.xor_zero] at h3
def bits8 (b:UInt8):List Bool:=(List.range 8).map fun k=>b.toNat.testBit k
def lbits (l:List UInt8):List Bool:=l.flatMap bits8
theorem bits8_len (b:UInt8):(bits8 b).length=8:=by simp [bits8]
theorem numE_bits8 (b:UInt8):numE (bits8 b)=BitVec.ofNat 32 b.toNat:=by
 apply BitVec.eq_of_getLsbD_eq;intro i hi;rw [numE_get _ _ hi,BitVec.getLsbD_ofNat];have hb:=b.toNat_lt;by_cases h8:i<8
 ·simp [bits8,h8,hi]
 ·have:b.toNat.testBit i=false:=Nat.testBit_lt_two_pow (Nat.lt_of_lt_of_le hb (Nat.pow_le_pow_right (by omega) (by omega:8≤i)));simp [bits8,h8,this]
theorem cByte_bits (c:BitVec 32) (b:UInt8):cByte c b=(bits8 b).foldl aStep c:=by
 rw [absorb_is _ _ (by rw [bits8_len];omega),bits8_len,numE_bits8,cByte_step]
theorem crc_bits (l:List UInt8) (c:BitVec 32):l.foldl cByte c=(lbits l).foldl aStep c:=by
 induction l generalizing c with
 |nil=>rfl
 |cons b l ih=>
  rw [List.foldl_cons,ih,cByte_bits];show _=(bits8 b++lbits l).foldl aStep c;rw [List.foldl_append]
theorem byte_bit (x q k:Nat) (hk:k<8):(UInt8.ofNat (x / 2 ^ q)).toNat.testBit k=x.testBit (q+k):=by
 rw [UInt8.toNat_ofNat',Nat.testBit_mod_two_pow,Nat.testBit_div_two_pow];simp [hk,Nat.add_comm]
theorem sum_num (x:BitVec 32):numE (lbits (sumB x))=x:=by
 apply BitVec.eq_of_getLsbD_eq;intro i hi;rw [numE_get _ _ hi]
 have e:lbits (sumB x)=(List.range 8).map (fun k=>x.toNat.testBit (0+k))++((List.range 8).map (fun k=>x.toNat.testBit (8+k))++((List.range 8).map (fun k=>x.toNat.testBit (16+k))++((List.range 8).map (fun k=>x.toNat.testBit (24+k))++[]))):=by
  unfold lbits sumB bits8;simp only [List.flatMap_cons,List.flatMap_nil];congr 1
  ·exact List.map_congr_left fun k hk=>by have:=byte_bit x.toNat 0 k (List.mem_range.1 hk);rwa [Nat.pow_zero,Nat.div_one] at this
  congr 1
  ·exact List.map_congr_left fun k hk=>byte_bit x.toNat 8 k (List.mem_range.1 hk)
  congr 1
  ·exact List.map_congr_left fun k hk=>byte_bit x.toNat 16 k (List.mem_range.1 hk)
  congr 1
  ·exact List.map_congr_left fun k hk=>byte_bit x.toNat 24 k (List.mem_range.1 hk)
 have e2:lbits (sumB x)=(List.range 32).map (fun k=>x.toNat.testBit k):=by rw [e];rfl
 rw [e2];simp [hi,BitVec.getLsbD]
theorem seal_sum {l b:List UInt8} (h:openB l=some b):(lbits l).foldl aStep 0xFFFFFFFF#32=stepN 0xFFFFFFFF#32 32:=by
 unfold openB at h;split at h
 ·cases h
 ·rename_i hl;split at h
  ·rename_i hs;have e:l=l.take (l.length - 4)++sumB (crcB (l.take (l.length - 4))):=by rw [←hs,List.take_append_drop]
   generalize l.take (l.length - 4)=a at *;rw [e];have e1:lbits (a++sumB (crcB a))=lbits a++lbits (sumB (crcB a)):=by unfold lbits;rw [List.flatMap_append]
   have e2:(lbits (sumB (crcB a))).length=32:=by simp [lbits,sumB,bits8_len]
   rw [e1,List.foldl_append,absorb_is _ _ (by omega),e2,sum_num,←crc_bits];unfold crcB;rw [←BitVec.xor_assoc,BitVec.xor_self,BitVec.zero_xor]
  ·cases h
def bitAt (l:List UInt8) (i:Nat):Bool:=((l[i / 8]?).getD 0).toNat.testBit (i % 8)
theorem lbits_len (l:List UInt8):(lbits l).length=8 * l.length:=by
 induction l with
 |nil=>rfl
 |cons b l ih=>
  show (bits8 b++lbits l).length=_;rw [List.length_append,bits8_len,ih,List.length_cons];omega
theorem lbits_get (l:List UInt8) (i:Nat) (hi:i<8 * l.length):(lbits l)[i]?=some (bitAt l i):=by
 induction l generalizing i with
 |nil=>simp at hi
 |cons b l ih=>
  show (bits8 b++lbits l)[i]?=_;rw [List.getElem?_append];by_cases h8:i<8
  ·rw [if_pos (by rw [bits8_len];exact h8)];have e1:i / 8=0:=by omega
   have e2:i % 8=i:=by omega
   simp [bits8,h8,bitAt,e1,e2]
  ·rw [if_neg (by rw [bits8_len];exact h8),bits8_len,ih (i - 8) (by simp only [List.length_cons] at hi;omega)];have e1:i / 8=(i - 8) / 8+1:=by omega
   have e2:(i - 8) % 8=i % 8:=by omega
   unfold bitAt;rw [e1,e2,List.getElem?_cons_succ]
theorem burst_kills {l l' b:List UInt8} {p:Nat} (h:openB l=some b) (hl:l'.length=l.length) (hout:∀i,i<p∨p+32≤i→bitAt l' i=bitAt l i) (hne:∃i,i<8 * l.length∧bitAt l' i≠bitAt l i):openB l'=none:=by
 rcases h':openB l' with _|b'
 ·rfl
 ·exfalso;have s1:=seal_sum h;have s2:=seal_sum h';have hle:(lbits l').length=(lbits l).length:=by rw [lbits_len,lbits_len,hl]
  have heq:∀i,i<p∨p+32≤i→(lbits l')[i]?=(lbits l)[i]?:=fun i hi=>by
   by_cases hi8:i<8 * l.length
   ·rw [lbits_get l i hi8,lbits_get l' i (by omega),hout i hi]
   ·rw [List.getElem?_eq_none (by rw [lbits_len];omega),List.getElem?_eq_none (by rw [lbits_len];omega)]
  have cut:∀L:List Bool,L=L.take p++((L.drop p).take 32++L.drop (p+32)):=fun L=>by
   rw [←List.drop_drop,List.take_append_drop,List.take_append_drop]
  have t1:(lbits l').take p=(lbits l).take p:=by
   apply List.ext_getElem?;intro i;rw [List.getElem?_take,List.getElem?_take];split
   ·rename_i hi;exact heq i (Or.inl hi)
   ·rfl
  have t3:(lbits l').drop (p+32)=(lbits l).drop (p+32):=by
   apply List.ext_getElem?;intro i;rw [List.getElem?_drop,List.getElem?_drop];exact heq _ (Or.inr (by omega))
  rw [←s2,cut (lbits l),cut (lbits l'),t1,t3,List.foldl_append,List.foldl_append,List.foldl_append,List.foldl_append] at s1;have s3:=fold_inj _ s1;have hlen:((lbits l).drop p|>.take 32).length=((lbits l').drop p|>.take 32).length:=by simp [hle]
  have h32:((lbits l).drop p|>.take 32).length≤32:=by rw [List.length_take];omega
  rw [absorb_is ((lbits l).drop p|>.take 32) _ h32,absorb_is ((lbits l').drop p|>.take 32) _ (by rw [←hlen];exact h32),←hlen] at s3;have s4:=stepN_inj _ s3
  have s5:numE ((lbits l).drop p|>.take 32)=numE ((lbits l').drop p|>.take 32):=by
   have x:=congrArg (fun y=>(((lbits l).take p).foldl aStep 0xFFFFFFFF#32) ^^^ y) s4;simp only [←BitVec.xor_assoc,BitVec.xor_self,BitVec.zero_xor] at x;exact x
  have s6:=numE_inj hlen h32 s5;obtain ⟨i,hi,hb⟩:=hne;have whole:lbits l'=lbits l:=by rw [cut (lbits l'),cut (lbits l),t1,t3,s6]
  have g1:=lbits_get l i hi;have g2:=lbits_get l' i (by omega);rw [whole,g1] at g2;exact hb (Option.some.inj g2).symm
end Go.Proofs.YtpapdkhjdelfcabGreat
namespace Go.Proofs.YtpapdkhjdelfcabGreat
open Go.RowKit
def flipB (l:List UInt8) (i:Nat):List UInt8:=l.set (i / 8) (((l[i / 8]?).getD 0) ^^^ UInt8.ofNat (2 ^ (i % 8)))
def burstN (l:List UInt8) (p:Nat) (s:Nat→Bool):Nat→List UInt8
 |0=>l
 |k+1=>if s k=true∧p+k<8 * l.length then flipB (burstN l p s k) (p+k) else burstN l p s k
theorem flipB_len (l:List UInt8) (i:Nat):(flipB l i).length=l.length:=List.length_set
theorem burstN_len (l:List UInt8) (p:Nat) (s:Nat→Bool) (k:Nat):(burstN l p s k).length=l.length:=by
 induction k with
 |zero=>rfl
 |succ k ih=>rw [burstN];split <;>simp [flipB_len,ih]
theorem flipB_bit (l:List UInt8) (i j:Nat) (hi:i<8 * l.length):bitAt (flipB l i) j=(bitAt l j !=decide (i=j)):=by
 unfold bitAt flipB;by_cases hq:i / 8=j / 8
 ·rw [←hq,List.getElem?_set_self (by omega)];simp only [Option.getD_some];rw [UInt8.toNat_xor,Nat.testBit_xor,UInt8.toNat_ofNat'];congr 1;have h1:i % 8<8:=Nat.mod_lt _ (by omega);have h2:2 ^ (i % 8)<2 ^ 8:=Nat.pow_lt_pow_right (by omega) h1;rw [Nat.mod_eq_of_lt h2,Nat.testBit_two_pow];by_cases e:i=j
  ·subst e;simp
  ·rw [decide_eq_false e,decide_eq_false (by omega)]
 ·rw [List.getElem?_set_ne hq];have e:i≠j:=fun e=>hq (by rw [e])
  simp [e]
theorem burstN_bit (l:List UInt8) (p:Nat) (s:Nat→Bool) (k j:Nat):bitAt (burstN l p s k) j=(bitAt l j !=(decide (p≤j∧j<p+k∧j<8 * l.length) && s (j - p))):=by
 induction k with
 |zero=>
  have:decide (p≤j∧j<p+0∧j<8 * l.length)=false:=decide_eq_false (by omega);rw [this];simp [burstN]
 |succ k ih=>
  rw [burstN];by_cases hc:s k=true∧p+k<8 * l.length
  ·rw [if_pos hc,flipB_bit _ _ _ (by rw [burstN_len];exact hc.2),ih];by_cases hj:p+k=j
   ·subst hj;have h1:decide (p≤p+k∧p+k<p+k∧p+k<8 * l.length)=false:=decide_eq_false (by omega);have h2:decide (p≤p+k∧p+k<p+(k+1)∧p+k<8 * l.length)=true:=decide_eq_true ⟨by omega,by omega,hc.2⟩;rw [h1,h2,Nat.add_sub_cancel_left,hc.1];simp
   ·have h1:decide (p≤j∧j<p+k∧j<8 * l.length)=decide (p≤j∧j<p+(k+1)∧j<8 * l.length):=decide_eq_decide.2 (by omega);rw [h1,decide_eq_false hj];simp
  ·rw [if_neg hc,ih];by_cases hj:p+k=j
   ·subst hj;have h1:decide (p≤p+k∧p+k<p+k∧p+k<8 * l.length)=false:=decide_eq_false (by omega);rw [h1,Nat.add_sub_cancel_left];by_cases h8:p+k<8 * l.length
    ·have:s k=false:=by
      cases hs:s k
      ·rfl
      ·exact absurd ⟨hs,h8⟩ hc
     simp [this]
    ·simp [h8]
   ·have h1:decide (p≤j∧j<p+k∧j<8 * l.length)=decide (p≤j∧j<p+(k+1)∧j<8 * l.length):=decide_eq_decide.2 (by omega);rw [h1]
theorem burst_none {l b:List UInt8} {p k:Nat} {s:Nat→Bool} (h:openB l=some b) (hk:k≤32) (hs:∃j,j<k∧s j=true∧p+j<8 * l.length):openB (burstN l p s k)=none:=by
 refine burst_kills (p:=p) h (burstN_len _ _ _ _) (fun i hi=>?_) ?_
 ·rw [burstN_bit,decide_eq_false (by omega)];simp
 ·obtain ⟨j,hj,hsj,h8⟩:=hs;refine ⟨p+j,h8,?_⟩;rw [burstN_bit,decide_eq_true ⟨by omega,by omega,h8⟩,Nat.add_sub_cancel_left,hsj];cases bitAt l (p+j)<;>simp
theorem pow_u8 (m:Nat) (h:m<8):(2:Int) ^ m % 256=((UInt8.ofNat (2 ^ m)).toNat:Int):=by
 rw [UInt8.toNat_ofNat'];rcases (show m=0∨m=1∨m=2∨m=3∨m=4∨m=5∨m=6∨m=7 by omega) with rfl|rfl|rfl|rfl|rfl|rfl|rfl|rfl <;>rfl
theorem u8_xor (x y:UInt8):bits .xor .u8 (x.toNat:Int) (y.toNat:Int)=((x ^^^ y).toNat:Int):=by
 have hx:=x.toNat_lt;have hy:=y.toNat_lt;show IntKind.u8.wrap ((BitVec.ofInt 8 (x.toNat:Int) ^^^ BitVec.ofInt 8 (y.toNat:Int)).toNat:Int)=_;have hz:x.toNat ^^^ y.toNat<2 ^ 8:=Nat.xor_lt_two_pow (by omega) (by omega)
 have e:∀z:UInt8,(BitVec.ofInt 8 (z.toNat:Int)).toNat=z.toNat:=fun z=>by
  have:=z.toNat_lt;rw [BitVec.toNat_ofInt];omega
 rw [BitVec.toNat_xor,e,e,IntKind.wrap_u8,UInt8.toNat_xor];omega
end Go.Proofs.YtpapdkhjdelfcabGreat
