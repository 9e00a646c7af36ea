import Derived.Test.YtpapdkhjdelfcabGreatHBM
import Derived.Test.YtpapdkhjdelfcabGreatHBF
import Derived.Test.YtpapdkhjdelfcabGreatHBJ
set_option maxRecDepth 100000
set_option maxHeartbeats 4000000
namespace Go.Proofs.YtpapdkhjdelfcabGreat
open Go.RowKit
theorem preN_take:∀a b:List EI,a.take (preN a b)=b.take (preN a b)
 |[],b=>by simp [preN]
 |_::_,[]=>by simp [preN]
 |x::a,y::b=>by
  rw [preN];split
  ·rename_i h;rw [List.take_succ_cons,List.take_succ_cons,h,preN_take a b]
  ·simp
theorem sufN_drop (a b:List EI):a.drop (a.length - sufN a b)=b.drop (b.length - sufN a b):=by
 have h:=preN_take a.reverse b.reverse;have hl:=sufN_le a b
 have e:∀(l:List EI) (k:Nat),k≤l.length→l.reverse.take k=(l.drop (l.length - k)).reverse:=fun l k hk=>by
  rw [List.take_reverse]
 change a.reverse.take (sufN a b)=b.reverse.take (sufN a b) at h;rw [e a _ hl.1,e b _ hl.2] at h;exact List.reverse_inj.1 h
theorem ct_back (O E:List EI) (p s:Nat) (hp:p=preN O E) (hs:s=sufN (O.drop p) (E.drop p)):p+s≤O.length∧p+s≤E.length∧ctF p s ((E.drop p).take (E.length - s - p)) O=E:=by
 have h1:=preN_le O E;have h2:=sufN_le (O.drop p) (E.drop p);rw [←hp] at h1;rw [←hs,List.length_drop,List.length_drop] at h2;refine ⟨by omega,by omega,?_⟩;have h3:=preN_take O E;rw [←hp] at h3;have h4:=sufN_drop (O.drop p) (E.drop p);rw [←hs,List.drop_drop,List.drop_drop,List.length_drop,List.length_drop] at h4;have e1:p+(O.length - p - s)=O.length - s:=by omega
 have e2:p+(E.length - p - s)=E.length - s:=by omega
 rw [e1,e2] at h4;unfold ctF;rw [h3,h4]
 have e3:(E.drop p).take (E.length - s - p)++E.drop (E.length - s)=E.drop p:=by
  have:=List.take_append_drop (E.length - s - p) (E.drop p);rw [List.drop_drop] at this;rwa [show p+(E.length - s - p)=E.length - s by omega] at this
 rw [List.append_assoc,e3,List.take_append_drop]
theorem open_pack {L:List Bool} (h:0<L.length):openB (packB L++sumB (crcB (packB L)))=some (packB L):=by
 obtain ⟨z,hz,hbits⟩:=pack_bits _ L (Nat.le_refl _)
 have hlen:0<(packB L).length:=by
  rcases Nat.eq_zero_or_pos (packB L).length with e|e
  ·exfalso;have h0:=congrArg List.length hbits;rw [bytesBits_len,e,List.length_append] at h0;omega
  ·exact e
 unfold openB;have e4:(sumB (crcB (packB L))).length=4:=rfl;have e:(packB L++sumB (crcB (packB L))).length - 4=(packB L).length:=by rw [List.length_append,e4];omega
 rw [if_neg (by rw [List.length_append,e4];omega),e,List.take_left',List.drop_left',if_pos rfl]
 ·rfl
 ·rfl
theorem change_round {b s g:Nat} {B:List BK} {ah bh:Nat} {M:List EI} {alg:Int} (hb:b<4294967296) (hs:s<4294967296) (hg:g<4294967296) (hB:Good B) (h1:ah<65536) (h2:bh<65536) (hl:M.length<65536) (hM:∀e∈M,EnW alg B.length e):changeP alg (patchB b s g B ah bh M alg)=some (b,s,g,B,ah,bh,M):=by
 obtain ⟨z,hz,hbits⟩:=pack_bits _ (chB b s g B ah bh M alg) (Nat.le_refl _)
 have hop : openB (patchB b s g B ah bh M alg) = some (packB (chB b s g B ah bh M alg)) := open_pack (by
   unfold chB
   simp only [List.length_append, chHd_len]
   omega)
 have hbody:chB b s g B ah bh M alg++List.replicate z false=bytesBits [67,80]++(numBits b 32++(numBits s 32++(numBits g 32++(bksB B++(numBits ah 16++(numBits bh 16++(numBits M.length 16++(ensB (wpF alg) (woF 1 alg B.length) M++List.replicate z false)))))))):=by
  unfold chB chHd;simp only [List.append_assoc,List.nil_append]
 have s1:=textP_txt [67,80] (numBits b 32++(numBits s 32++(numBits g 32++(bksB B++(numBits ah 16++(numBits bh 16++(numBits M.length 16++(ensB (wpF alg) (woF 1 alg B.length) M++List.replicate z false)))))))) (k:=2) rfl
 have s2:baseX (numBits b 32++(numBits s 32++(numBits g 32++(bksB B++(numBits ah 16++(numBits bh 16++(numBits M.length 16++(ensB (wpF alg) (woF 1 alg B.length) M++List.replicate z false))))))))=some ((b,s,g),bksB B++(numBits ah 16++(numBits bh 16++(numBits M.length 16++(ensB (wpF alg) (woF 1 alg B.length) M++List.replicate z false))))):=by
  unfold baseX;rw [thenP_go (numP_num (W:=32) _ hb),thenP_go (numP_num (W:=32) _ hs),thenP_go (numP_num (W:=32) _ hg)];rfl
 have s3:=bksX_enc B hB.1 (numBits ah 16++(numBits bh 16++(numBits M.length 16++(ensB (wpF alg) (woF 1 alg B.length) M++List.replicate z false))))
 have s4:cutX (numBits ah 16++(numBits bh 16++(numBits M.length 16++(ensB (wpF alg) (woF 1 alg B.length) M++List.replicate z false))))=some ((ah,bh,M.length),ensB (wpF alg) (woF 1 alg B.length) M++List.replicate z false):=by
  unfold cutX;rw [thenP_go (numP_num (W:=16) _ h1),thenP_go (numP_num (W:=16) _ h2),thenP_go (numP_num (W:=16) _ hl)];rfl
 have s5:=manyP_enc (P:=oneEn (wpF alg) (woF 1 alg B.length)) (enc:=enB (wpF alg) (woF 1 alg B.length)) M (fun e he Y=>oneEn_enc (f:=1) hB.1.1 (hM e he) Y) (List.replicate z false);unfold changeP;rw [hop,Option.bind_some,hbits,hbody];rw [chgT_step (o':=some _) (by rw [Option.bind_some,s1];rfl),if_pos rfl,chgH_step (o':=some _) (by rw [Option.bind_some,s2];rfl),chgBk_step (o':=some _) (by rw [Option.bind_some,s3];rfl),if_pos hB,chgC_step (o':=some _) (by rw [Option.bind_some,s4];rfl)];rw [chgM_step (o':=some (List.replicate z false)) (M:=M) (by rw [Option.bind_some];exact s5)];unfold chgEnd;rw [if_pos (zeros_end z hz)]
end Go.Proofs.YtpapdkhjdelfcabGreat
namespace Go.Proofs.YtpapdkhjdelfcabGreat
open Go.RowKit
def imgS (f g:Nat) (c:Cfg) (B:List BK):List UInt8:=imageB f g c B (mkF c B)
def GenOK (c:Cfg) (g:Nat) (B:List BK):Prop:=c.OK∧Good B∧1≤g∧g≤1073741824
theorem imgS_round {f g:Nat} {c:Cfg} {B:List BK} (hf:1≤f∧f≤2) (h:GenOK c g B):imageP (imgS f g c B)=some (f,g,{c with formats:=0},B,mkF c B):=simage_round hf h.1 h.2.1 h.2.2
theorem body_pos (f g:Nat) (c:Cfg) (B:List BK) (E:List EI):0<(bodyB f g c B E).length:=by
 unfold bodyB headB;simp only [List.length_append,bytesBits_len,List.length_cons];omega
theorem imgS_open (f g:Nat) (c:Cfg) (B:List BK):openB (imgS f g c B)=some (packB (bodyB f g c B (mkF c B))):=open_pack (body_pos _ _ _ _ _)
theorem imgS_len (f g:Nat) (c:Cfg) (B:List BK):5≤(imgS f g c B).length:=by
 have h:=imgS_open f g c B;unfold openB at h;split at h
 ·cases h
 ·omega
theorem dec_img {f g:Nat} {c:Cfg} {B:List BK} (hf:1≤f∧f≤2) (h:GenOK c g B):decF (imgS f g c B)=(imgS 1 g c B,imgS 2 g c B,g,0):=by
 unfold decF;rw [imgS_round hf h];rfl
theorem bit_set {l:List UInt8} {j:Nat} {v:UInt8} (i:Nat) (hi:i<j * 8∨j * 8+32≤i):bitAt (l.set j v) i=bitAt l i:=by
 unfold bitAt;rw [List.getElem?_set_ne (by omega)]
theorem xor_bit {x v:UInt8} (h:v≠0):∃k,k<8∧(x ^^^ v).toNat.testBit k≠x.toNat.testBit k:=by
 have hne:v.toNat≠0:=fun e=>h (UInt8.toNat_inj.1 e)
 obtain ⟨k,hk⟩:=Nat.exists_testBit_of_ne_zero hne;refine ⟨k,?_,?_⟩
 ·rcases Nat.lt_or_ge k 8 with h8|h8
  ·exact h8
  ·have:=Nat.testBit_lt_two_pow (Nat.lt_of_lt_of_le v.toNat_lt (Nat.pow_le_pow_right (by omega) h8):v.toNat<2 ^ k);rw [this] at hk;cases hk
 ·rw [UInt8.toNat_xor,Nat.testBit_xor,hk];cases x.toNat.testBit k <;>simp
theorem turned_none {l b:List UInt8} {j:Nat} {v:UInt8} (h:openB l=some b) (hj:j<l.length) (hv:v≠0):openB (l.set j (l[j] ^^^ v))=none:=by
 refine burst_kills (p:=j * 8) h (by simp) (fun i hi=>bit_set i hi) ?_;obtain ⟨k,hk,hne⟩:=xor_bit (x:=l[j]) hv;refine ⟨j * 8+k,by omega,?_⟩;have e1:(j * 8+k) / 8=j:=by omega
 have e2:(j * 8+k) % 8=k:=by omega
 unfold bitAt;rw [e1,e2,List.getElem?_set_self hj,List.getElem?_eq_getElem hj];exact hne
theorem dec_none {l:List UInt8} (h:openB l=none):decF l=([],[],0,9):=by
 unfold decF imageP;rw [h];rfl
def patS (c:Cfg) (g1:Nat) (B1:List BK) (g2:Nat) (B2:List BK):List UInt8:=
 patchB g1 (sumF g1 c B1 (mkF c B1)).toNat g2 B2 (preN ((mkF c B1).map (inE B1 B2)) (mkF c B2)) (sufN (((mkF c B1).map (inE B1 B2)).drop (preN ((mkF c B1).map (inE B1 B2)) (mkF c B2))) ((mkF c B2).drop (preN ((mkF c B1).map (inE B1 B2)) (mkF c B2)))) (((mkF c B2).drop (preN ((mkF c B1).map (inE B1 B2)) (mkF c B2))).take ((mkF c B2).length - sufN (((mkF c B1).map (inE B1 B2)).drop (preN ((mkF c B1).map (inE B1 B2)) (mkF c B2))) ((mkF c B2).drop (preN ((mkF c B1).map (inE B1 B2)) (mkF c B2))) - preN ((mkF c B1).map (inE B1 B2)) (mkF c B2))) c.alg
theorem patch_img {c:Cfg} {g1 g2:Nat} {B1 B2:List BK} {f1 f2:Nat} (hf1:1≤f1∧f1≤2) (hf2:1≤f2∧f2≤2) (h1:GenOK c g1 B1) (h2:GenOK c g2 B2):patchF (imgS f1 g1 c B1) (imgS f2 g2 c B2)=(patS c g1 B1 g2 B2,0):=by
 unfold patchF;rw [imgS_round hf1 h1,imgS_round hf2 h2];dsimp only;rw [if_pos rfl];rfl
theorem mkF_short {c:Cfg} {B:List BK} (hc:c.OK) (hB:Good B):(mkF c B).length<65536:=by
 have h1:=(mkF_right hc hB).1;have h2:=wSum_le hB.1;have h4:=eachF_le ((Cfg.ok_iff c).1 hc).1
 have h5:cntF c B≤300:=by
  unfold cntF;have h6:=hc.2.2.2.1;split
  ·omega
  ·split
   ·have:eachF c * wSum B≤3 * 48:=Int.mul_le_mul h4.2 h2.2 h2.1 (by omega);omega
   ·omega
 omega
theorem change_img {c:Cfg} {g1 g2:Nat} {B1 B2:List BK} (h1:GenOK c g1 B1) (h2:GenOK c g2 B2):∃ah bh M,changeP c.alg (patS c g1 B1 g2 B2)=some (g1,(sumF g1 c B1 (mkF c B1)).toNat,g2,B2,ah,bh,M)∧ah+bh≤(mkF c B1).length∧ctF ah bh M ((mkF c B1).map (inE B1 B2))=mkF c B2:=by
 obtain ⟨p1,p2,p3⟩:=ct_back ((mkF c B1).map (inE B1 B2)) (mkF c B2) _ _ rfl rfl;have l1:=mkF_short h1.1 h1.2.1;have l2:=mkF_short h2.1 h2.2.1;rw [List.length_map] at p1;refine ⟨_,_,_,change_round ?_ ?_ ?_ h2.2.1 ?_ ?_ ?_ ?_,p1,p3⟩
 ·have:=h1.2.2.2;omega
 ·exact BitVec.isLt _
 ·have:=h2.2.2.2;omega
 ·omega
 ·omega
 ·rw [List.length_take,List.length_drop];omega
 ·intro e he;exact mkF_enW h2.1 h2.2.1 e (List.mem_of_mem_drop (List.mem_of_mem_take he))
theorem apply_img {c:Cfg} {g1 g2:Nat} {B1 B2:List BK} (h1:GenOK c g1 B1) (h2:GenOK c g2 B2):applyF (patS c g1 B1 g2 B2) (imgS 1 g1 c B1)=(imgS 1 g2 c B2,0):=by
 obtain ⟨ah,bh,M,e1,e2,e3⟩:=change_img h1 h2;unfold applyF;rw [imgS_round ⟨by omega,by omega⟩ h1];dsimp only;rw [e1];dsimp only;have hR:RightT {c with formats:=0} B2 (mkF c B2):=mkF_right (c:=c) h2.1 h2.2.1;rw [if_pos ⟨rfl,rfl⟩,if_pos e2,e3,if_pos ⟨h2.2.2,hR⟩];rfl
theorem apply_other {c:Cfg} {g1 g2 g:Nat} {B1 B2 B:List BK} (h1:GenOK c g1 B1) (h2:GenOK c g2 B2) (h:GenOK c g B):(applyF (patS c g1 B1 g2 B2) (imgS 1 g c B)).2=10∨(g1=g∧sumF g1 c B1 (mkF c B1)=sumF g c B (mkF c B)):=by
 obtain ⟨ah,bh,M,e1,e2,e3⟩:=change_img h1 h2;by_cases hc:g1=g∧sumF g1 c B1 (mkF c B1)=sumF g c B (mkF c B)
 ·exact Or.inr hc
 ·refine Or.inl ?_;unfold applyF;rw [imgS_round ⟨by omega,by omega⟩ h];dsimp only;rw [e1];dsimp only;rw [if_neg];intro k;exact hc ⟨k.1,BitVec.eq_of_toNat_eq k.2⟩
theorem cut4 (a t:List UInt8) (h:t.length=4):(a++t).take ((a++t).length - 4)=a:=List.take_left' (by rw [List.length_append,h];omega)
theorem imgS_cut (g:Nat) (c:Cfg) (B:List BK):crcB ((imgS 1 g c B).take ((imgS 1 g c B).length - 4))=sumF g c B (mkF c B):=
 congrArg crcB (cut4 (packB (bodyB 1 g c B (mkF c B))) (sumB (crcB (packB (bodyB 1 g c B (mkF c B))))) rfl)
end Go.Proofs.YtpapdkhjdelfcabGreat
namespace Go.Proofs.YtpapdkhjdelfcabGreat
open Go.RowKit
theorem answX_tag {N:Nat} {X Y:List Bool} {t:List UInt8} {y:(List UInt8×Ans)×List Bool} (h1:textP 1 X=some (t,Y)) (h:answX N X=some y):y.1.1=t:=by
 unfold answX at h;rw [thenP_go h1] at h;unfold thenP at h;obtain ⟨a, -,ha⟩:=Option.bind_eq_some_iff.1 h;by_cases hk:a.1=1
 ·simp only [hk,if_true] at ha;obtain ⟨a1, -,ha⟩:=Option.bind_eq_some_iff.1 ha;obtain ⟨a2, -,ha⟩:=Option.bind_eq_some_iff.1 ha;obtain ⟨a3, -,ha⟩:=Option.bind_eq_some_iff.1 ha;obtain ⟨a4, -,ha⟩:=Option.bind_eq_some_iff.1 ha;obtain ⟨a5, -,ha⟩:=Option.bind_eq_some_iff.1 ha;unfold doneP at ha;rw [←Option.some.inj ha]
 ·simp only [hk,if_false] at ha;unfold doneP at ha;rw [←Option.some.inj ha]
theorem answ_tick (g fm cg cf:Nat) (T:List TP):answP (tickB g fm cg cf T)=none:=by
 obtain ⟨z,hz,hbits⟩:=pack_bits _ (questB g fm cg cf (misF T)) (Nat.le_refl _);have hop:openB (tickB g fm cg cf T)=some (packB (questB g fm cg cf (misF T))):=open_pack (by rw [questB_len];omega)
 have hq:questB g fm cg cf (misF T)++List.replicate z false=bytesBits [81]++(numBits g 32++(numBits fm 8++(numBits cg 32++(numBits cf 8++(numBits (misF T) 16++List.replicate z false))))):=by
  unfold questB;simp only [List.append_assoc,List.nil_append]
 unfold answP;rw [hop,Option.bind_some,hbits,hq];have s1:=textP_txt [81] (numBits g 32++(numBits fm 8++(numBits cg 32++(numBits cf 8++(numBits (misF T) 16++List.replicate z false))))) (k:=1) rfl;rcases hT:answX ((packB (questB g fm cg cf (misF T))).length - 11) (bytesBits [81]++(numBits g 32++(numBits fm 8++(numBits cg 32++(numBits cf 8++(numBits (misF T) 16++List.replicate z false)))))) with _|y
 ·rfl
 ·rw [Option.bind_some,if_neg];intro h;rw [answX_tag s1 hT] at h;exact absurd h.2.1 (by decide)
theorem answ_round {a:Ans} (hg:a.2.1<4294967296) (hf:a.2.2.1<256) (hc:a.2.2.2.1<65536) (hn:a.2.2.2.2.1<65536) (hok:ansOK a) (hz:a.1≠1→a=(a.1,0,0,0,0,[])):answP (frameA a)=some a:=by
 obtain ⟨k,g,f,c,n,s⟩:=a;simp only at hg hf hc hn hz;by_cases hk:k=1
 ·subst hk
  have hsl:1≤s.length∧s.length≤48:=by
   rcases hok with h|h|h
   ·cases h
   ·cases h
   ·exact h.2
  have hL:(answ1 g f c n (txt s)).length=8 * (11+s.length):=by
   unfold answ1 answ0;rw [show (txt s).data.toList=s from rfl];simp only [List.length_append,numBits_len,bytesBits_len,List.length_nil,List.length_cons];omega
  have hpk:packB (answ1 g f c n (txt s))=packB (answ1 g f c n (txt s)):=rfl;obtain ⟨z,hz,hbits⟩:=pack_bits _ (answ1 g f c n (txt s)) (Nat.le_refl _)
  have hz0:z=0∧(packB (answ1 g f c n (txt s))).length=11+s.length:=by
   have:=congrArg List.length hbits;rw [bytesBits_len,List.length_append,hL,List.length_replicate] at this;omega
  have hop:openB (frameA (1,g,f,c,n,s))=some (packB (answ1 g f c n (txt s))):=open_pack (by rw [hL];omega)
  have hq:answ1 g f c n (txt s)++List.replicate z false=bytesBits [65]++(numBits 1 8++(numBits g 32++(numBits f 8++(numBits c 16++(numBits n 16++(bytesBits s++List.replicate z false)))))):=by
   unfold answ1 answ0;rw [show (txt s).data.toList=s from rfl];simp only [List.append_assoc,List.nil_append]
  unfold answP;rw [hop,Option.bind_some,hbits,hq,hz0.2,show 11+s.length - 11=s.length by omega];unfold answX;rw [thenP_go (textP_txt [65] _ (k:=1) rfl),thenP_go (numP_num (W:=8) _ (by decide)),if_pos rfl,thenP_go (numP_num (W:=32) _ hg),thenP_go (numP_num (W:=8) _ hf),thenP_go (numP_num (W:=16) _ hc),thenP_go (numP_num (W:=16) _ hn),thenP_go (textP_txt s _ rfl)];show (some ((([65]:List UInt8),((1,g,f,c,n,s):Ans)),List.replicate z false)).bind _=_;rw [Option.bind_some,if_pos ⟨zeros_end z hz,rfl,hok⟩]
 ·have e:=hz hk;injection e with _ e
  injection e with e1 e
  injection e with e2 e
  injection e with e3 e
  injection e with e4 e5
  subst e1 e2 e3 e4 e5;have hk2:k<256:=by rcases hok with h|h|h <;>simp only at h <;>omega
  obtain ⟨z,hz,hbits⟩:=pack_bits _ (answ0 k) (Nat.le_refl _)
  have hop:openB (frameA (k,0,0,0,0,[]))=some (packB (answ0 k)):=by
   unfold frameA;rw [if_neg hk];exact open_pack (by unfold answ0;simp only [List.length_append,numBits_len,bytesBits_len,List.length_nil,List.length_cons];omega)
  have hq:answ0 k++List.replicate z false=bytesBits [65]++(numBits k 8++List.replicate z false):=by
   unfold answ0;simp only [List.append_assoc,List.nil_append]
  unfold answP;rw [hop,Option.bind_some,hbits,hq];unfold answX;rw [thenP_go (textP_txt [65] _ (k:=1) rfl),thenP_go (numP_num (W:=8) _ hk2),if_neg hk];show (some ((([65]:List UInt8),((k,0,0,0,0,[]):Ans)),List.replicate z false)).bind _=_;rw [Option.bind_some,if_pos ⟨zeros_end z hz,rfl,hok⟩]
end Go.Proofs.YtpapdkhjdelfcabGreat
namespace Go.Proofs.YtpapdkhjdelfcabGreat
open Go.RowKit
theorem ris_step {T:List TP} (h:Ris T):∀(d i:Nat) (hj:i+d<T.length),(T[i]'(by omega)).1+d≤(T[i+d]'hj).1
 |0,i,hj=>by simp
 |d+1,i,hj=>by
  have h1:=ris_step h d i (by omega);have h2:=List.pairwise_iff_getElem.1 h (i+d) (i+d+1) (by omega) (by omega) (by omega);have e:i+(d+1)=i+d+1:=by omega
  simp only [e];omega
theorem ris_full {T:List TP} {n:Nat} (h:Ris T) (hn:∀x∈T,x.1<n) (hl:T.length=n) (i:Nat) (hi:i<T.length):T[i].1=i:=by
 have h1:=ris_step h i 0 (by omega);have h2:=ris_step h (T.length - 1 - i) i (by omega);have h3:=hn _ (List.getElem_mem (by omega:i+(T.length - 1 - i)<T.length));simp only [Nat.zero_add] at h1;omega
theorem cuts_take (l:List UInt8) (n:Nat):(List.range n).flatMap (fun i:Nat=>cutP l (i:Int))=l.take (48 * n):=by
 induction n with
 |zero=>simp
 |succ n ih=>
  rw [List.range_succ,List.flatMap_append,ih];have e:48 * (n+1)=48 * n+48:=by omega
  rw [e,List.take_add];congr 1;simp only [List.flatMap_cons,List.flatMap_nil,List.append_nil];unfold cutP;rw [if_neg (by omega),Int.toNat_natCast]
theorem cuts_all (l:List UInt8):(List.range (countP l.length)).flatMap (fun i:Nat=>cutP l (i:Int))=l:=by
 rw [cuts_take];exact List.take_of_length_le (by unfold countP;omega)
theorem thB_full {T:List TP} {l:List UInt8} (h:Ris T) (hT:∀x∈T,x.1<countP l.length∧x.2=cutP l (x.1:Int)) (hl:T.length=countP l.length):thB T=l:=by
 have e:T=(List.range (countP l.length)).map fun i:Nat=>(i,cutP l (i:Int)):=by
  apply List.ext_getElem
  ·rw [List.length_map,List.length_range,hl]
  ·intro i h1 h2;have f1:=ris_full h (fun x hx=>(hT x hx).1) hl i h1;have f2:=(hT _ (List.getElem_mem h1)).2;rw [List.getElem_map,List.getElem_range];exact Prod.ext f1 (by rw [f2,f1])
 unfold thB;rw [e,List.flatMap_map];exact cuts_all l
def PieceT (on:Cfg) (Bs:List (List BK)) (a:Ans):Prop:=a.1=1→∃B,1≤a.2.1∧Bs[a.2.1 - 1]?=some B∧(1≤a.2.2.1∧a.2.2.1≤2)∧a.2.2.2.1=countP (imgS a.2.2.1 a.2.1 on B).length∧a.2.2.2.2.1<a.2.2.2.1∧a.2.2.2.2.2=cutP (imgS a.2.2.1 a.2.1 on B) (a.2.2.2.2.1:Int)
def ComT (on:Cfg) (Bs:List (List BK)) (p:Pln):Prop:=p.cg=0∨∃B,1≤p.cg∧Bs[p.cg - 1]?=some B∧(1≤p.cf∧p.cf≤2)∧p.cp=countP (imgS p.cf p.cg on B).length∧∀x∈p.T,x.1<p.cp∧x.2=cutP (imgS p.cf p.cg on B) (x.1:Int)
def HeldT (on:Cfg) (Bs:List (List BK)) (p:Pln):Prop:=p.g=0∨∃B,1≤p.g∧Bs[p.g - 1]?=some B∧p.c={on with formats:=0}∧p.B=B∧p.E=mkF on B
def PlT (on:Cfg) (Bs:List (List BK)) (p:Pln):Prop:=ComT on Bs p∧HeldT on Bs p
def HistT (on:Cfg) (Bs:List (List BK)):Prop:=on.OK∧Bs.length≤1073741824∧∀B∈Bs,Good B
theorem HistT.gen {on:Cfg} {Bs:List (List BK)} (h:HistT on Bs) {g:Nat} {B:List BK} (hg:1≤g) (hB:Bs[g - 1]?=some B):GenOK on g B:=by
 obtain ⟨hl,rfl⟩:=List.getElem?_eq_some_iff.1 hB;exact ⟨h.1,h.2.2 _ (List.getElem_mem hl),hg,by have:=h.2.1;omega⟩
theorem take_true {on:Cfg} {Bs:List (List BK)} {p:Pln} {a:Ans} (hH:HistT on Bs) (hp:PlT on Bs p) (hOK:p.OK) (ha:AnsR a) (hA:PieceT on Bs a):PlT on Bs (takeG p a)∧p.g≤(takeG p a).g:=by
 unfold takeG;by_cases h1:a.1=1
 rotate_left
 ·rw [if_pos h1];exact ⟨hp,Nat.le_refl _⟩
 rw [if_neg (by simpa using h1)];obtain ⟨B,b1,b2,b3,b4,b5,b6⟩:=hA h1;by_cases hu:useP p.fm p.g p.cg p.cf p.cp p.T a
 rotate_left
 ·rw [if_neg hu];exact ⟨hp,Nat.le_refl _⟩
 rw [if_pos hu];have hnT:=newT_ok hOK ha hu;have hw:=hu.1;unfold wantB at hw;simp only [Bool.and_eq_true,decide_eq_true_eq] at hw;obtain ⟨⟨⟨w1,w2⟩,w3⟩, -⟩:=hw
 have hcom:com1 p.cg p.cf p.cp p.T a=(a.2.1,a.2.2.1,a.2.2.2.1,(com1 p.cg p.cf p.cp p.T a).2.2.2)∧∀x∈(com1 p.cg p.cf p.cp p.T a).2.2.2,x.1<a.2.2.2.1∧x.2=cutP (imgS a.2.2.1 a.2.1 on B) (x.1:Int):=by
  have u2:=hu.2.1;have u3:=hu.2.2;unfold com1 at u2 u3 ⊢;by_cases hc:p.cg<a.2.1
  ·rw [if_pos hc];exact ⟨rfl,fun x hx=>by cases hx⟩
  ·rw [if_neg hc] at u2 u3 ⊢;simp only at u2 u3;have e:p.cg=a.2.1:=by omega
   rcases hp.1 with h0|⟨B',c1,c2,c3,c4,c5⟩
   ·omega
   ·rw [e] at c2;have eB:B'=B:=by rw [c2] at b2;exact Option.some.inj b2
    subst eB;refine ⟨by rw [e,←u2,←u3],fun x hx=>?_⟩;have:=c5 x hx;rw [e,←u2] at this;rw [u3];exact this
 have hmem:∀x∈newT p.cg p.cf p.cp p.T a,x.1<a.2.2.2.1∧x.2=cutP (imgS a.2.2.1 a.2.1 on B) (x.1:Int):=fun x hx=>by
  rcases layF_mem hx with e|e
  ·rw [e];exact ⟨b5,b6⟩
  ·exact hcom.2 x e
 have e1:(com1 p.cg p.cf p.cp p.T a).1=a.2.1:=by rw [hcom.1]
 have e2:(com1 p.cg p.cf p.cp p.T a).2.1=a.2.2.1:=by rw [hcom.1]
 have e3:(com1 p.cg p.cf p.cp p.T a).2.2.1=a.2.2.2.1:=by rw [hcom.1]
 rw [e1,e2,e3];by_cases hfull:(newT p.cg p.cf p.cp p.T a).length=a.2.2.2.1
 ·rw [if_pos hfull];have hG:=hH.gen b1 b2;have hth:thB (newT p.cg p.cf p.cp p.T a)=imgS a.2.2.1 a.2.1 on B:=thB_full hnT.1 (fun x hx=>by have:=hmem x hx;rw [b4] at this;exact this) (by rw [hfull,b4]);rw [hth,imgS_round b3 hG];dsimp only;rw [if_pos ⟨rfl,rfl⟩];exact ⟨⟨Or.inl rfl,Or.inr ⟨B,b1,b2,rfl,rfl,rfl⟩⟩,Nat.le_of_lt w1⟩
 ·rw [if_neg hfull];exact ⟨⟨Or.inr ⟨B,b1,b2,b3,b4,hmem⟩,hp.2⟩,Nat.le_refl _⟩
def FrT (on:Cfg) (Bs:List (List BK)) (t:ByteArray):Prop:=∀a,answP t.data.toList=some a→PieceT on Bs a
theorem recv_true {on:Cfg} {Bs:List (List BK)} {p:Pln} {t:ByteArray} (hH:HistT on Bs) (hp:PlT on Bs p) (hOK:p.OK) (ht:FrT on Bs t):PlT on Bs (recvG p t.data.toList)∧p.g≤(recvG p t.data.toList).g:=by
 unfold recvG;split
 ·exact ⟨hp,Nat.le_refl _⟩
 ·rename_i a ha;exact take_true hH hp hOK (AnsR.of ha) (ht a ha)
theorem tick_true (on:Cfg) (Bs:List (List BK)) (p:Pln):FrT on Bs (txt (tickB p.g p.fm p.cg p.cf p.T)):=fun a ha=>by
 rw [show (txt (tickB p.g p.fm p.cg p.cf p.T)).data.toList=tickB p.g p.fm p.cg p.cf p.T from rfl,answ_tick] at ha;cases ha
theorem PieceT.grow {on:Cfg} {Bs:List (List BK)} {a:Ans} (h:PieceT on Bs a) (B':List BK):PieceT on (Bs++[B']) a:=fun h1=>by
 obtain ⟨B,b1,b2,b3⟩:=h h1;have hl:=(List.getElem?_eq_some_iff.1 b2).1;exact ⟨B,b1,by rw [List.getElem?_append_left hl];exact b2,b3⟩
theorem FrT.grow {on:Cfg} {Bs:List (List BK)} {t:ByteArray} (h:FrT on Bs t) (B':List BK):FrT on (Bs++[B']) t:=fun a ha=>(h a ha).grow B'
theorem PlT.grow {on:Cfg} {Bs:List (List BK)} {p:Pln} (h:PlT on Bs p) (B':List BK):PlT on (Bs++[B']) p:=by
 refine ⟨h.1.imp id fun ⟨B,b1,b2,b3⟩=>⟨B,b1,?_,b3⟩,h.2.imp id fun ⟨B,b1,b2,b3⟩=>⟨B,b1,?_,b3⟩⟩
 ·rw [List.getElem?_append_left (List.getElem?_eq_some_iff.1 b2).1];exact b2
 ·rw [List.getElem?_append_left (List.getElem?_eq_some_iff.1 b2).1];exact b2
theorem new_true (on:Cfg) (Bs:List (List BK)) (fm:Nat):PlT on Bs (plnNew fm):=⟨Or.inl rfl,Or.inl rfl⟩
end Go.Proofs.YtpapdkhjdelfcabGreat
namespace Go.Proofs.YtpapdkhjdelfcabGreat
open Go.RowKit
theorem mkF_300 {c:Cfg} {B:List BK} (hc:c.OK) (hB:Good B):(mkF c B).length≤300:=by
 have h1:=(mkF_right hc hB).1;have h2:=wSum_le hB.1;have h4:=eachF_le ((Cfg.ok_iff c).1 hc).1
 have h5:cntF c B≤300:=by
  unfold cntF;have h6:=hc.2.2.2.1;split
  ·omega
  ·split
   ·have:eachF c * wSum B≤3 * 48:=Int.mul_le_mul h4.2 h2.2 h2.1 (by omega);omega
   ·omega
 omega
theorem flat_len {α:Type} (f:α→List Bool) (k:Nat) (h:∀a,(f a).length≤k):∀l:List α,(l.flatMap f).length≤l.length * k
 |[]=>by simp
 |a::l=>by
  have:=flat_len f k h l;have:=h a;rw [List.flatMap_cons,List.length_append,List.length_cons,Nat.succ_mul];omega
theorem imgS_short {f g:Nat} {c:Cfg} {B:List BK} (hc:c.OK) (hB:Good B):(imgS f g c B).length≤100000:=by
 have h300:=mkF_300 hc hB;unfold imgS imageB;rw [List.length_append,sumB_len];have h1:=packB_len_le _ (bodyB f g c B (mkF c B)) (Nat.le_refl _);have hk:c.key.data.toList.length=16:=by rw [Array.length_toList];exact hc.2.2.2.2.2.2.2.2.2.1
 have h2:=bksB_len hB.1
 have h3 : (ensB (wpF c.alg) (woF f c.alg B.length) (mkF c B)).length ≤ (mkF c B).length * 128 := flat_len _ _ (fun e => by
   unfold enB
   rw [List.length_append, numBits_len, numBits_len]
   have := wpF_le c.alg
   have := woF_le f c.alg B.length
   omega) _
 have h4:(bodyB f g c B (mkF c B)).length≤224+(bksB B).length+16+(ensB (wpF c.alg) (woF f c.alg B.length) (mkF c B)).length:=by
  unfold bodyB headB;simp only [List.length_append,bytesBits_len,numBits_len,List.length_cons,List.length_nil,hk];omega
 omega
theorem cut_len {l:List UInt8} {n:Nat} (h:n<countP l.length):1≤(cutP l (n:Int)).length∧(cutP l (n:Int)).length≤48:=by
 unfold cutP countP at *;rw [if_neg (by omega),Int.toNat_natCast,List.length_take,List.length_drop];omega
theorem serve_true {on:Cfg} {Bs:List (List BK)} {B:List BK} {g:Nat} (hH:HistT on Bs) (hg:g=Bs.length) (hB:1≤g→Bs[g - 1]?=some B) (l:List UInt8):FrT on Bs (txt (serveB on.formats.toNat g on B (mkF on B) l)):=by
 intro a ha;rw [show (txt (serveB on.formats.toNat g on B (mkF on B) l)).data.toList=serveB on.formats.toNat g on B (mkF on B) l from rfl] at ha;unfold serveB at ha;split at ha
 rotate_left
 ·have:answP []=none:=answP_no (by unfold openB;rw [if_pos (by simp)]);rw [this] at ha;cases ha
 ·rename_i h fo cg cf mi hq;unfold answF at ha;by_cases h0:(fo &&& on.formats.toNat)=0
  ·rw [if_pos h0,answ_round (by decide) (by decide) (by decide) (by decide) (Or.inr (Or.inl rfl)) (fun _=>rfl)] at ha;rw [←Option.some.inj ha];intro h1;cases h1
  rw [if_neg h0] at ha;by_cases hz:g=0∨h=g
  ·rw [if_pos hz,answ_round (by decide) (by decide) (by decide) (by decide) (Or.inl rfl) (fun _=>rfl)] at ha;rw [←Option.some.inj ha];intro h1;cases h1
  rw [if_neg hz] at ha;have hg1:1≤g:=by omega
  have hGO:=hH.gen hg1 (hB hg1);have hcm:(fo &&& on.formats.toNat)≤3:=Nat.le_trans Nat.and_le_right (by have:=((Cfg.ok_iff on).1 hH.1).2;omega)
  have hfm:1≤fmtF cg cf (fo &&& on.formats.toNat) g∧fmtF cg cf (fo &&& on.formats.toNat) g≤2:=by
   unfold fmtF;split
   ·omega
   ·split <;>omega
  generalize fmtF cg cf (fo &&& on.formats.toNat) g=f at *;have hsz:(imgS f g on B).length≤100000:=imgS_short hGO.1 hGO.2.1;have h5:=imgS_len f g on B;change answP (frameA (1,g,f,countP (imgS f g on B).length,if cg=g∧mi<countP (imgS f g on B).length then mi else 0,cutP (imgS f g on B) ((if cg=g∧mi<countP (imgS f g on B).length then mi else 0:Nat):Int)))=some a at ha
  have hpl:(if cg=g∧mi<countP (imgS f g on B).length then mi else 0)<countP (imgS f g on B).length:=by
   split
   ·rename_i h;exact h.2
   ·unfold countP;omega
  have hcn:countP (imgS f g on B).length<65536:=by unfold countP;omega
  generalize (if cg=g∧mi<countP (imgS f g on B).length then mi else 0)=n at *;have hcl:=cut_len hpl;rw [answ_round (by show g<4294967296;have:=hGO.2.2.2;omega) (by show f<256;omega) (by show countP (imgS f g on B).length<65536;exact hcn) (by show n<65536;omega) (Or.inr (Or.inr ⟨rfl,hcl⟩)) (fun h=>absurd rfl h)] at ha;rw [←Option.some.inj ha];intro _;exact ⟨B,hg1,hB hg1,hfm,rfl,hpl,rfl⟩
end Go.Proofs.YtpapdkhjdelfcabGreat
namespace Go.Proofs.YtpapdkhjdelfcabGreat
open Go.RowKit
theorem quest_round {g fm cg cf:Nat} {T:List TP} (h1:g<4294967296) (h2:fm<256) (h3:cg<4294967296) (h4:cf<256) (h5:misF T<65536):questP (tickB g fm cg cf T)=some (g,fm,cg,cf,misF T):=by
 obtain ⟨z,hz,hbits⟩:=pack_bits _ (questB g fm cg cf (misF T)) (Nat.le_refl _);have hop:openB (tickB g fm cg cf T)=some (packB (questB g fm cg cf (misF T))):=open_pack (by rw [questB_len];omega)
 have hq:questB g fm cg cf (misF T)++List.replicate z false=bytesBits [81]++(numBits g 32++(numBits fm 8++(numBits cg 32++(numBits cf 8++(numBits (misF T) 16++List.replicate z false))))):=by
  unfold questB;simp only [List.append_assoc,List.nil_append]
 unfold questP;rw [hop,Option.bind_some,hbits,hq];unfold questX;rw [thenP_go (textP_txt [81] _ (k:=1) rfl),thenP_go (numP_num (W:=32) _ h1),thenP_go (numP_num (W:=8) _ h2),thenP_go (numP_num (W:=32) _ h3),thenP_go (numP_num (W:=8) _ h4),thenP_go (numP_num (W:=16) _ h5)];show (some ((([81]:List UInt8),g,fm,cg,cf,misF T),List.replicate z false)).bind _=_;rw [Option.bind_some,if_pos ⟨zeros_end z hz,rfl⟩]
def ansS (on:Cfg) (G:Nat) (B:List BK) (p:Pln):Ans:=answF on.formats.toNat G on B (mkF on B) p.g p.fm p.cg p.cf (misF p.T)
theorem ansS_cases {on:Cfg} {Bs:List (List BK)} {B:List BK} {G:Nat} (hH:HistT on Bs) (p:Pln):
  ((p.fm &&& on.formats.toNat)=0∧ansS on G B p=(2,0,0,0,0,[]))∨((p.fm &&& on.formats.toNat)≠0∧(G=0∨p.g=G)∧ansS on G B p=(0,0,0,0,0,[]))∨
  ((p.fm &&& on.formats.toNat)≠0∧1≤G∧p.g≠G∧∃f n,(1≤f∧f≤2)∧f=fmtF p.cg p.cf (p.fm &&& on.formats.toNat) G∧n<countP (imgS f G on B).length∧(p.cg=G∧misF p.T<countP (imgS f G on B).length→n=misF p.T)∧ansS on G B p=(1,G,f,countP (imgS f G on B).length,n,cutP (imgS f G on B) (n:Int))):=by
 unfold ansS answF;by_cases h0:(p.fm &&& on.formats.toNat)=0
 ·rw [if_pos h0];exact Or.inl ⟨h0,rfl⟩
 rw [if_neg h0];by_cases hz:G=0∨p.g=G
 ·rw [if_pos hz];exact Or.inr (Or.inl ⟨h0,hz,rfl⟩)
 rw [if_neg hz];have hcm:(p.fm &&& on.formats.toNat)≤3:=Nat.le_trans Nat.and_le_right (by have:=((Cfg.ok_iff on).1 hH.1).2;omega)
 have hfm:1≤fmtF p.cg p.cf (p.fm &&& on.formats.toNat) G∧fmtF p.cg p.cf (p.fm &&& on.formats.toNat) G≤2:=by
  unfold fmtF;split
  ·omega
  ·split <;>omega
 refine Or.inr (Or.inr ⟨h0,by omega,by omega,fmtF p.cg p.cf (p.fm &&& on.formats.toNat) G,(if p.cg=G∧misF p.T<countP (imgS (fmtF p.cg p.cf (p.fm &&& on.formats.toNat) G) G on B).length then misF p.T else 0),hfm,rfl,?_,fun h=>if_pos h,rfl⟩);have h5:=imgS_len (fmtF p.cg p.cf (p.fm &&& on.formats.toNat) G) G on B;split
 ·rename_i h;exact h.2
 ·unfold countP;omega
theorem ansS_piece {on:Cfg} {Bs:List (List BK)} {B:List BK} {G:Nat} (hH:HistT on Bs) (hB:1≤G→Bs[G - 1]?=some B) (p:Pln):answP (frameA (ansS on G B p))=some (ansS on G B p)∧PieceT on Bs (ansS on G B p):=by
 rcases ansS_cases hH p with ⟨-,e⟩|⟨-, -,e⟩|⟨-,hg1, -,f,n,hf, -,hn, -,e⟩
 ·rw [e];exact ⟨answ_round (by decide) (by decide) (by decide) (by decide) (Or.inr (Or.inl rfl)) (fun _=>rfl),fun h=>by cases h⟩
 ·rw [e];exact ⟨answ_round (by decide) (by decide) (by decide) (by decide) (Or.inl rfl) (fun _=>rfl),fun h=>by cases h⟩
 ·rw [e];have hGO:=hH.gen hg1 (hB hg1);have hsz:(imgS f G on B).length≤100000:=imgS_short hGO.1 hGO.2.1;have hcn:countP (imgS f G on B).length<65536:=by unfold countP;omega
  have hcl:=cut_len hn;exact ⟨answ_round (by show G<4294967296;have:=hGO.2.2.2;omega) (by show f<256;omega) (by show countP (imgS f G on B).length<65536;exact hcn) (by show n<65536;omega) (Or.inr (Or.inr ⟨rfl,hcl⟩)) (fun h=>absurd rfl h),fun _=>⟨B,hg1,hB hg1,hf,rfl,hn,rfl⟩⟩
theorem round_take {on:Cfg} {Bs:List (List BK)} {B:List BK} {G:Nat} (hH:HistT on Bs) (hB:1≤G→Bs[G - 1]?=some B) {p:Pln} (hp:p.OK):recvG p (serveB on.formats.toNat G on B (mkF on B) (tickB p.g p.fm p.cg p.cf p.T))=takeG p (ansS on G B p):=by
 have hm:misF p.T<65536:=by
  have:=misK_le p.T 0;have:=hp.tlen;unfold misF;omega
 have hg:p.g<4294967296:=by have:=hp.g;omega
 have hfm:p.fm<256:=by have:=hp.fm;omega
 unfold serveB;rw [quest_round hg hfm hp.cg hp.cf hm];show recvG p (frameA (ansS on G B p))=_;unfold recvG;rw [(ansS_piece hH hB p).1]
end Go.Proofs.YtpapdkhjdelfcabGreat
