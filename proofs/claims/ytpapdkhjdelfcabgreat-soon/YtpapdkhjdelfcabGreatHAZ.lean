import Derived.Test.YtpapdkhjdelfcabGreatHAY
set_option maxRecDepth 100000
set_option maxHeartbeats 4000000
namespace Go.Proofs.YtpapdkhjdelfcabGreat
open Go.RowKit
structure ChgOK (b s g:Nat) (B:List BK) (ah bh:Nat) (M:List EI):Prop where
 b32:b<4294967296
 s32:s<4294967296
 g32:g<4294967296
 good:Good B
 a16:ah<65536
 h16:bh<65536
 len:M.length≤65535
 ents:∀e∈M,EnR e
theorem then_some {α β:Type} {P:List Bool→Option (α×List Bool)} {Q:α→List Bool→Option (β×List Bool)} {X:List Bool} {r:β×List Bool} (h:thenP P Q X=some r):∃a Y,P X=some (a,Y)∧Q a Y=some r:=by
 unfold thenP at h;cases hP:P X with
 |none=>rw [hP] at h;cases h
 |some y=>rw [hP] at h;exact ⟨y.1,y.2,rfl,h⟩
theorem changeP_ok {alg:Int} {l:List UInt8} {b s g:Nat} {B:List BK} {ah bh:Nat} {M:List EI} (h:changeP alg l=some (b,s,g,B,ah,bh,M)):ChgOK b s g B ah bh M:=by
 unfold changeP at h;cases hO:openB l with
 |none=>rw [hO] at h;cases h
 |some b0=>
  rw [hO] at h;have h':chgT alg (some (bytesBits b0))=some (b,s,g,B,ah,bh,M):=h;obtain ⟨X1,t,Y1, -, -,h1⟩:=stage_some h';split at h1
  ·obtain ⟨X2,hd,Y2, -,hh,h2⟩:=stage_some h1;obtain ⟨X3,B3,Y3, -, -,h3⟩:=stage_some h2;split at h3
   ·rename_i hgd;obtain ⟨X4,ct,Y4, -,hc,h4⟩:=stage_some h3;obtain ⟨X5,E5,Y5, -,hm,h5⟩:=stage_some h4;unfold chgEnd at h5;split at h5
    ·injection h5 with h5
     obtain ⟨b1,s1,g1⟩:=hd;obtain ⟨a1,a2,n⟩:=ct;simp only at *;injection h5 with e1 h5
     injection h5 with e2 h5
     injection h5 with e3 h5
     injection h5 with e4 h5
     injection h5 with e5 h5
     injection h5 with e6 e7
     subst e1 e2 e3 e4 e5 e6 e7;obtain ⟨x1,z1,k1,hh⟩:=then_some hh;obtain ⟨x2,z2,k2,hh⟩:=then_some hh;obtain ⟨x3,z3,k3,hh⟩:=then_some hh;obtain ⟨y1,u1,j1,hc⟩:=then_some hc;obtain ⟨y2,u2,j2,hc⟩:=then_some hc;obtain ⟨y3,u3,j3,hc⟩:=then_some hc;unfold doneP at hh hc;injection hh with hh
     injection hh with hh _
     injection hh with i1 hh
     injection hh with i2 i3
     injection hc with hc
     injection hc with hc _
     injection hc with i4 hc
     injection hc with i5 i6
     subst i1 i2 i3 i4 i5 i6
     have hma := many_all (Q := EnR) (fun X a Y hX => by
       obtain ⟨x, y, rfl, hx, hy, -⟩ := oneEn_some hX
       have h6 := pow_le_64 hx (wpF_le _)
       have h7 := pow_le_16 hy (woF_le _ _ _)
       exact ⟨by simp only; omega, by simp only; omega, by simp only; omega, by simp only; omega⟩) _ _ _ _ hm
     have p1:=(numP_lt k1).1;have p2:=(numP_lt k2).1;have p3:=(numP_lt k3).1;have p4:=(numP_lt j1).1;have p5:=(numP_lt j2).1;have p6:=(numP_lt j3).1;exact ⟨p1,p2,p3,hgd,p4,p5,by rw [hma.1];have:(2:Nat) ^ 16=65536:=rfl;omega,hma.2⟩
    ·cases h5
   ·cases h3
  ·cases h1
def applyF (lp li:List UInt8):List UInt8×Int:=match imageP li with
 |some (_,g,c,B,E)=>match changeP c.alg lp with
  |some (b,s,g2,B2,ah,bh,M)=>if b=g∧s=(sumF g c B E).toNat then
    if ah+bh≤E.length then haveI:=decRightG g2 c B2 (ctF ah bh M (E.map (inE B B2)));if RightG g2 c B2 (ctF ah bh M (E.map (inE B B2))) then (imageB 1 g2 c B2 (ctF ah bh M (E.map (inE B B2))),0) else ([],9)
    else ([],9)
   else ([],10)
  |none=>([],9)
 |none=>([],9)
theorem ctF_len {ah bh:Nat} {M O:List EI}:(ctF ah bh M O).length≤M.length+2 * O.length:=by
 unfold ctF;simp only [List.length_append,List.length_take,List.length_drop];omega
theorem ctF_mem {ah bh:Nat} {M O:List EI} {e:EI} (h:e∈ctF ah bh M O):e∈M∨e∈O:=by
 unfold ctF at h;rcases List.mem_append.1 h with h|h
 ·rcases List.mem_append.1 h with h|h
  ·exact Or.inr (List.mem_of_mem_take h)
  ·exact Or.inl h
 ·exact Or.inr (List.mem_of_mem_drop h)
theorem placeF_le (B:List BK) (id:ByteArray): -1≤placeF B id∧placeF B id≤B.length:=by
 unfold placeF;split <;>omega
end Go.Proofs.YtpapdkhjdelfcabGreat
