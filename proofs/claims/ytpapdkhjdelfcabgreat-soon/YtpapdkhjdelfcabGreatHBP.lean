import Derived.Test.YtpapdkhjdelfcabGreatHBO
set_option maxRecDepth 100000
set_option maxHeartbeats 4000000
namespace Go.Proofs.YtpapdkhjdelfcabGreat
open Go.RowKit
theorem ktotal_is (B:List BK) (v:Value) (w:World) (hP:PoolAt w v B) (hB:PoolOK B):
  Calls Tryz.prog 179 #[v] w fun e w'=>e= .returned (.int .i64 (wSum B))∧w=w':=by
 obtain ⟨h8,hall⟩:=hB;obtain ⟨ao,cap,rfl,hc⟩:=hP.open;obtain ⟨T,hT⟩:∃T,T=wSum B:=⟨_,rfl⟩;rw [←hT];have HT:=Hid.mk hT;clear hT;go_enter Tryz.func179,Tryz.ntmps179;go_wp2;go_loopg [3,4] B.length (fun r s n wr=>w=wr∧∃k:Nat,r=B.length - k∧k≤B.length∧n= .int .i64 k∧s= .int .i64 (wSum (B.take k)))
 case atStart=>exact ⟨rfl,0,by omega,by omega,rfl,rfl⟩
 case round=>
  obtain ⟨rfl,k,hr,hk,rfl,rfl⟩:=hrel;have hbd:=wSum_bound B (fun b hb=>(hall b hb).2.2) k;have hk8:k≤8:=by omega
  by_cases hlt:k<B.length
  ·obtain ⟨g,rfl,c0,c1⟩:=hc k hlt;have HS:Hid (wSum (B.take (k+1))=wSum (B.take k)+B[k].2):=wSum_take B k hlt;have hw:=(hall _ (List.getElem_mem hlt)).2.2;clear hc;generalize B[k].1=idk at *;generalize B[k].2=wk at *;generalize wSum (B.take k)=sk at *;obtain ⟨hw1,hw2⟩:=hw;obtain ⟨hb1,hb2⟩:=hbd;go_wp2;go_roundg (B.length - (k+1))
   case measure=>omega
   case rel=>exact ⟨rfl,k+1,rfl,by omega,by go_num,by rw [HS.out]⟩
  ·have HE:Hid (wSum (B.take k)=T):=by rw [List.take_of_length_le (by omega),HT.out];rfl
   clear hc hbd;go_wp2;go_ret;exact ⟨ret_int HE.out,rfl⟩
def cntTo (L:List ByteArray) (id:ByteArray):Nat→Nat
 |0=>0
 |k+1=>cntTo L id k+if ((L[k]?).getD ByteArray.empty).toList==id.toList then 1 else 0
theorem cntTo_le (L:List ByteArray) (id:ByteArray) (k:Nat):cntTo L id k≤k:=by
 induction k with
 |zero=>simp [cntTo]
 |succ k ih=>rw [cntTo];split <;>omega
def ShareOK (B:List BK) (M:Nat) (L:List ByteArray) (b:BK):Prop:=(cntTo L b.1 M:Int)=M * b.2 / wSum B∨((cntTo L b.1 M:Int)=M * b.2 / wSum B+1∧0<M * b.2 % wSum B)
def SharedOK (B:List BK) (M:Nat) (L:List ByteArray):Prop:=wSum B=0∨(L.length=M∧∀b∈B,ShareOK B M L b)
theorem shared_is (p:Nat) (Lw:List Value) (M:List Nat) (q:Nat) (on:Cfg) (B:List BK) (g:Int) {LL:List Nat} {ps:List (Nat×Pln×List Nat)} (vb:Value) (m:Nat) (w:World) (hW:WAt p Lw w) (h7:Lw[7]?=some (.pointer (some ⟨q,0,none⟩))) (h9:Lw[9]?=some (.int .i64 (m:Int))) (h14:Lw[14]?=some vb)
  (hS:SvpAt M q ⟨on,B,g,LL,ps⟩ w) (hP:PoolAt w vb B) (hB:PoolOK B) (hE:(mkF on B).length≤65536) (hm:m≤300):
  Calls Tryz.prog 132 #[.pointer (some ⟨p,0,none⟩)] w (RBool w (IsB (SharedOK B m (namesF B (mkF on B))))):=by
 have hsl:=slots_v M q on B g w hS hE;have htt:=fun wx (h:Bel w wx)=>ktotal_is B vb wx (hP.later h) hB
 have hL0:wSum B=0→namesF B (mkF on B)=[]:=fun h=>by rw [mkF,if_pos (by omega)];rfl
 have c7:=hW.1 7 _ h7;have c9:=hW.1 9 _ h9;have c14:=hW.1 14 _ h14;obtain ⟨h8,hall⟩:=hB;have hT2:=wSum_bound B (fun b hb=>(hall b hb).2.2) B.length;rw [List.take_length] at hT2;obtain ⟨ao,cap,rfl,hc⟩:=hP.open;generalize namesF B (mkF on B)=L at *;clear hS hE;obtain ⟨Pr,hPr⟩:∃Pr:Prop,Pr=SharedOK B m L:=⟨_,rfl⟩;rw [←hPr];unfold SharedOK ShareOK at hPr;obtain ⟨T,hT⟩:∃T,T=wSum B:=⟨_,rfl⟩;rw [←hT] at htt hL0 hT2 hPr;have HPr:=Hid.mk hPr;clear hPr;clear hT hW;obtain ⟨hT2a,hT2b⟩:=hT2;go_enter Tryz.func132,Tryz.ntmps132;go_wp2_with fail;refine hsl.mono ?_;rintro e w1 ⟨vL,rfl,hb1,hO,hnil⟩;have k9:=hb1.cell c9;have k14:=hb1.cell c14;obtain ⟨aL,capL,rfl⟩:=own_slice hO;go_wp2_with fail;refine (htt _ hb1).mono ?_;rintro e w2 ⟨rfl,rfl⟩;clear htt hsl;by_cases hT0:T=0
 ·subst hT0;have hLn:=hL0 rfl;subst hLn;have hv:=hnil.1 rfl;simp only [Value.slice.injEq] at hv;obtain ⟨rfl, -,rfl⟩:=hv;clear hc hO hnil hL0;have hnq:∀wx:World,(binOp .eql 40 (.slice none 0 0) (.slice none 0 0)).run Tryz.prog wx= .ok (.bool true) wx:=fun wx=>by kernel_rfl
  go_wp2;go_ret;exact ⟨_,rfl,hb1,⟨fun _=>HPr.out ▸ Or.inl (by trivial),fun _=>rfl⟩⟩
 ·have hT0b:(T==0)=false:=by rw [beq_eq_false_iff_ne];exact hT0
  by_cases hlen:L.length=m
  rotate_left
  ·have hlb:((L.length:Int) !=(m:Int))=true:=by rw [bne_iff_ne];omega
   clear hc hO hnil hL0;go_wp2;go_ret;exact ⟨_,rfl,hb1,⟨fun h=>(by cases h),fun h=>(by rw [HPr.out] at h;exact h.elim (fun h=>absurd h hT0) (fun h=>absurd h.1 hlen))⟩⟩
  subst hlen;have HO:=Hid.mk hO
  have hcl:∀j (hj:j<L.length),∃gl,aL=some ⟨gl,0,none⟩∧w1.cell? ⟨gl,j,none⟩=some (.string L[j]):=by
   intro j hj;rcases hO.2 with ⟨_,h0⟩|⟨gl,cl,cur,hv,_⟩
   ·omega
   ·simp only [Value.slice.injEq] at hv;have:=World.ownsRow.cells hO (g:=gl) (by rw [hv.1];rfl) j (.string L[j]) (by simp [hj]);rw [show (⟨gl,0,none⟩:Addr).add j=⟨gl,j,none⟩ by unfold Addr.add;split <;>simp_all] at this;exact ⟨gl,hv.1,this⟩
  clear hO hnil hL0 HO;go_wp2;go_loopg [6] B.length (fun r n wr=>Bel w1 wr∧∃i:Nat,r=B.length - i∧i≤B.length∧n= .int .i64 i∧∀j (hj:j<B.length),j<i→((cntTo L B[j].1 L.length:Int)=L.length * B[j].2 / T∨((cntTo L B[j].1 L.length:Int)=L.length * B[j].2 / T+1∧0<L.length * B[j].2 % T)))
  case atStart=>exact ⟨Bel.refl _,0,by omega,by omega,rfl,fun j _ h=>by omega⟩
  case round=>
   obtain ⟨hb,i,hr,hi,rfl,hall2⟩:=hrel;have HA:=Hid.mk hall2;have n14:=hb.cell k14;have n9:=hb.cell k9;clear hall2;by_cases hlt:i<B.length
   ·obtain ⟨g,rfl,c0,c1⟩:=hc i hlt;have c0':=(hb1.trans hb).cell c0;have c1':=(hb1.trans hb).cell c1;obtain ⟨-, -,hw1,hw2⟩:=hall _ (List.getElem_mem hlt)
    have hstep:Hid (((cntTo L B[i].1 L.length:Int)=L.length * B[i].2 / T∨((cntTo L B[i].1 L.length:Int)=L.length * B[i].2 / T+1∧0<L.length * B[i].2 % T))→∀j (hj:j<B.length),j<i+1→((cntTo L B[j].1 L.length:Int)=L.length * B[j].2 / T∨((cntTo L B[j].1 L.length:Int)=L.length * B[j].2 / T+1∧0<L.length * B[j].2 % T))):=fun h j hj hji=>by
     by_cases he:j=i
     ·subst he;exact h
     ·exact HA.out j hj (by omega)
    have hno:Hid (¬((cntTo L B[i].1 L.length:Int)=L.length * B[i].2 / T∨((cntTo L B[i].1 L.length:Int)=L.length * B[i].2 / T+1∧0<L.length * B[i].2 % T))→¬Pr):=fun h hp=>by
     rw [HPr.out] at hp;exact hp.elim (fun h=>absurd h hT0) (fun hp=>h (hp.2 _ (List.getElem_mem hlt)))
    have c0b:=hb1.cell c0;have c1b:=hb1.cell c1;clear hc c0 c1 HA HPr;generalize B[i]=bi at *;obtain ⟨idi,wi⟩:=bi;simp only at c0' c1' c0b c1b hw1 hw2 hstep hno;have hm1:0≤(L.length:Int) * wi:=Int.mul_nonneg (by omega) hw1;have hm2:(L.length:Int) * wi≤300 * 6:=Int.mul_le_mul (by omega) hw2 hw1 (by omega);have hd1:0≤(L.length:Int) * wi / T:=Int.ediv_nonneg hm1 (by omega);have hd2:(L.length:Int) * wi / T≤(L.length:Int) * wi:=Int.ediv_le_self _ hm1;go_wp2;go_loopg [7,8] L.length (fun r vn vk wr=>Bel w1 wr∧∃k:Nat,r=L.length - k∧k≤L.length∧vk= .int .i64 k∧vn= .int .i64 (cntTo L idi k:Int))
    case atStart=>exact ⟨hb,0,by omega,by omega,rfl,rfl⟩
    case round=>
     obtain ⟨hbk,k,hrk,hk,rfl,rfl⟩:=hrel;have hcle:=cntTo_le L idi k;have o14:=hbk.cell k14;have o9:=hbk.cell k9;have e0:=hbk.cell c0b;have e1:=hbk.cell c1b;by_cases hkl:k<L.length
     ·obtain ⟨gl,rfl,x0⟩:=hcl k hkl;have x0':=hbk.cell x0;have hd:decide ((k:Int)<(L.length:Int))=true:=decide_eq_true (by omega)
      have HC:Hid (cntTo L idi (k+1)=cntTo L idi k+if L[k].toList==idi.toList then 1 else 0):=by
       show cntTo L idi (k+1)=_;rw [cntTo,List.getElem?_eq_getElem hkl];rfl
      generalize L[k]=lk at *;generalize cntTo L idi k=ck at *;clear hcl x0;cases heq:lk.toList==idi.toList
      ·rw [heq] at HC;go_wp2_with fail;go_quiet (fail);go_wp2;go_roundg (L.length - (k+1))
       case measure=>omega
       case rel=>exact ⟨by (repeat (first|exact Bel.refl _|assumption|refine Bel.step_alloc ?_ _|refine Bel.step_drew ?_|refine Bel.step_drewN ?_ _|refine Bel.step_set ?_ (by simp <;>omega) _|refine Bel.trans ?_ (by assumption))),k+1,rfl,by omega,by go_num,by rw [HC.out];simp⟩
      ·rw [heq] at HC;go_wp2_with fail;go_quiet (fail);go_wp2;go_roundg (L.length - (k+1))
       case measure=>omega
       case rel=>exact ⟨by (repeat (first|exact Bel.refl _|assumption|refine Bel.step_alloc ?_ _|refine Bel.step_drew ?_|refine Bel.step_drewN ?_ _|refine Bel.step_set ?_ (by simp <;>omega) _|refine Bel.trans ?_ (by assumption))),k+1,rfl,by omega,by go_num,by rw [HC.out];simp⟩
     ·obtain rfl:k=L.length:=by omega
      have hd:decide ((L.length:Int)<(L.length:Int))=false:=decide_eq_false (by omega);generalize cntTo L idi L.length=ck at *;generalize hlow:(L.length:Int) * wi / T=low at *;generalize hrem:(L.length:Int) * wi % T=rem at *;clear hcl;by_cases hq1:(ck:Int)=low
      ·have hb1':((ck:Int) !=low)=false:=by rw [bne_eq_false_iff_eq];exact hq1
       have HST:=Hid.mk (hstep.out (Or.inl hq1));go_wp2;go_roundg (B.length - (i+1))
       case measure=>omega
       case rel=>exact ⟨hbk,i+1,rfl,by omega,by go_num,HST.out⟩
      ·have hb1':((ck:Int) !=low)=true:=by rw [bne_iff_ne];exact hq1
       by_cases hq2:(ck:Int)=low+1
       ·have hb2':((ck:Int) !=low+1)=false:=by rw [bne_eq_false_iff_eq];exact hq2
        by_cases hq3:0<rem
        ·have hb3':decide (rem>0)=true:=decide_eq_true hq3;have HST:=Hid.mk (hstep.out (Or.inr ⟨hq2,hq3⟩));go_wp2;go_roundg (B.length - (i+1))
         case measure=>omega
         case rel=>exact ⟨hbk,i+1,rfl,by omega,by go_num,HST.out⟩
        ·have hb3':decide (rem>0)=false:=decide_eq_false hq3;have HNP:=Hid.mk (hno.out (fun h=>h.elim hq1 (fun h=>hq3 h.2)));go_wp2;go_ret;exact ⟨_,rfl,hb1.trans hbk,⟨fun h=>(by cases h),fun h=>absurd h HNP.out⟩⟩
       ·have hb2':((ck:Int) !=low+1)=true:=by rw [bne_iff_ne];exact hq2
        have HNP:=Hid.mk (hno.out (fun h=>h.elim hq1 (fun h=>hq2 h.1)));go_wp2;go_ret;exact ⟨_,rfl,hb1.trans hbk,⟨fun h=>(by cases h),fun h=>absurd h HNP.out⟩⟩
   ·have hfin:Hid (∀b∈B,(cntTo L b.1 L.length:Int)=L.length * b.2 / T∨((cntTo L b.1 L.length:Int)=L.length * b.2 / T+1∧0<L.length * b.2 % T)):=by
     intro b hb;obtain ⟨j,hj,rfl⟩:=List.getElem_of_mem hb;exact HA.out j hj (by omega)
    clear hc hcl
    go_wp2
    go_ret
    exact ⟨_,rfl,hb1.trans hb,⟨fun _=>HPr.out ▸ Or.inr ⟨by trivial,hfin.out⟩,fun _=>rfl⟩⟩
end Go.Proofs.YtpapdkhjdelfcabGreat
namespace Go.Proofs.YtpapdkhjdelfcabGreat
open Go.RowKit
theorem wl_len (part:Int) (c:Cfg) (q:Nat) (on:Cfg) (vb vw vs vh vf:Value) (img:ByteArray):(wl part c q on vb vw vs vh vf img).length=20:=rfl
theorem grown_but {w w':World} {row:Option Nat} (h:w.grownBy w' row):But row.toList w w':=
 But.mk h.os h.tape h.output h.size (fun k hk hm=>h.block k hk (fun e=>hm (by rw [←e];simp)))
theorem mask_cons {j:Nat} {M:List Nat} {w:World} (h:j∈M∨w.heap.size≤j):mask (j::M) w=mask M w:=
 mask_ext (fun _ hk => List.mem_cons_of_mem _ hk) (fun k hk => by
   rcases List.mem_cons.1 hk with e | e
   · rw [e]; exact h
   · exact Or.inl e)
theorem WentR.cons {j:Nat} {M:List Nat} {w:World} {on:Cfg} {vr:List Value} {bs:List (List BK)} (h:WentR M w on vr bs) (hj:j∈M∨w.heap.size≤j):WentR (j::M) w on vr bs:=⟨h.1,fun i v X hv hX=>by rw [mask_cons hj];exact h.2 i v X hv hX⟩
theorem gl_sl (g n c:Nat):gl (.slice (some ⟨g,0,none⟩) n c)=[g]:=rfl
theorem delta_inv {W0:World} {p s:Nat} {k:KI} {w wc w4 w6 w7:World} {LP:List BK} {v4 v6:Value} {T:List ByteArray} {g7 cap7:Nat} {o:Obj} (h:KInv W0 p s k w) (hb:But [k.q] w wc) (hS:SvpAt k.M k.q ⟨k.on,LP,k.g+1,k.L,k.pp⟩ wc) (hGd:Good LP)
  (hb4:Bel wc w4) (hO4:OwnB wc.heap.size w4 v4 LP) (hb6:Bel (w4.setCell ⟨p,14,none⟩ v4) w6) (hO6:OwnT w4.heap.size w6 v6 T) (hT:T.length=12) (hTo:T=ownersF k.on LP (k.g+1))
  (hown7:w7.ownsRow W0.heap.size 40 1 (.slice (some ⟨g7,0,none⟩) (k.vr.length+1+1) cap7) (k.vr.length+1+1) ((.slice none 0 0::k.vr)++[v6])) (hgrow:(w6.alloc o).grownBy w7 k.vw.ownBlock) (hat:k.vw.ownBlock=some g7∨g7=(w6.alloc o).heap.size) (hlt:g7<w7.heap.size):
  KInv W0 p (s+1) {k with M:=g7::k.M,B:=LP,g:=k.g+1,vb:=v4,vw:= .slice (some ⟨g7,0,none⟩) (k.vr.length+1+1) cap7,vr:=k.vr++[v6],bs:=k.bs++[LP]} (w7.setCell ⟨p,15,none⟩ (.slice (some ⟨g7,0,none⟩) (k.vr.length+1+1) cap7)):=by
 have hle:=h.le;have hpM:=h.inM _ h.p_in;have hqM:=h.inM _ h.q_in;have h1p:1≤[p].count p:=cnt_mem.1 (by simp);have h1q:1≤(k.svp.own k.q).count k.q:=cnt_mem.1 (by simp [Svp.own])
 have hpq:p≠k.q:=fun e=>by
  have a1:=hle p;have a2:1≤(k.svp.own k.q).count p:=by rw [e];exact h1q
  omega
 have hvwM:∀j∈gl k.vw,j∈k.blocks p:=fun j hj=>cnt_mem.2 (by rw [KI.count];have:=cnt_mem.1 hj;omega)
 have hvw:gl k.vw=k.vw.ownBlock.toList:=rfl;have b1:But [p] wc (w6.alloc o):=((But.of_bel hb4).set (by simp) _).step (hb6.step_alloc _);have b2:But (gl k.vw) (w6.alloc o) w7:=grown_but hgrow;have b3:But [p] w7 (w7.setCell ⟨p,15,none⟩ (.slice (some ⟨g7,0,none⟩) (k.vr.length+1+1) cap7)):=(But.refl _ _).set (by simp) _;generalize hwF:w7.setCell ⟨p,15,none⟩ (.slice (some ⟨g7,0,none⟩) (k.vr.length+1+1) cap7)=wF at *;have z0:=hb.size;have z1:=b1.size;have z4:=hb4.size;have z6:w4.heap.size≤w6.heap.size:=by have:=hb6.size;simpa [World.setCell] using this
 have z2:=b2.size;have z3:=b3.size
 have bA:But (p::k.q::gl k.vw) w wF:=by
  have c0:But (p::k.q::gl k.vw) w wc:=hb.mono (fun j hj=>Or.inl (by rw [List.mem_singleton.1 hj];simp));have c1:But (p::k.q::gl k.vw) wc (w6.alloc o):=b1.mono (fun j hj=>Or.inl (by rw [List.mem_singleton.1 hj];simp));have c2:But (p::k.q::gl k.vw) (w6.alloc o) w7:=b2.mono (fun j hj=>Or.inl (by simp [hj]));have c3:But (p::k.q::gl k.vw) w7 wF:=b3.mono (fun j hj=>Or.inl (by rw [List.mem_singleton.1 hj];simp));exact ((c0.trans c1).trans c2).trans c3
 have hNb:∀j∈p::k.q::gl k.vw,j∈k.blocks p:=fun j hj=>by
  rcases List.mem_cons.1 hj with e|hj
  ·rw [e];exact h.p_in
  ·rcases List.mem_cons.1 hj with e|hj
   ·rw [e];exact h.q_in
   ·exact hvwM j hj
 have K:=h.keep _ bA hNb
 have hN0:∀j∈p::k.q::gl k.vw,1≤[p].count j+(gl k.vw).count j+(k.svp.own k.q).count j:=fun j hj=>by
  rcases List.mem_cons.1 hj with e|hj
  ·rw [e];omega
  ·rcases List.mem_cons.1 hj with e|hj
   ·rw [e];omega
   ·have:=cnt_mem.1 hj;omega
 have hout:∀L:List Nat,(∀j,[p].count j+(gl k.vw).count j+(k.svp.own k.q).count j+L.count j≤1)→∀j∈L,j∉p::k.q::gl k.vw:=fun L hL j hj e=>by
  have a1:=hN0 j e;have a2:=hL j;have a3:=cnt_mem.1 hj;omega
 have hg7:g7∈k.M∨(w6.alloc o).heap.size≤g7:=hat.elim (fun e=>Or.inl (h.inM _ (hvwM g7 (by rw [hvw,e];simp)))) (fun e=>Or.inr (by omega));have hg7w:∀wx:World,wx.heap.size≤(w6.alloc o).heap.size→g7∈k.M∨wx.heap.size≤g7:=fun wx hx=>hg7.imp id (fun e=>by omega)
 have hg0:W0.heap.size≤g7:=(World.ownsRow.lt hown7 g7 rfl).1
 have hg7p:g7≠p:=fun e=>by
  rcases hat with h1|h1
  ·have:=hle p;have a3:1≤(gl k.vw).count p:=cnt_mem.1 (by rw [hvw,h1,e];simp);omega
  ·have:=(h.lt p hpM).2;omega
 have hpv:p∉gl k.vw:=fun e=>by
  have:=hle p;have:=cnt_mem.1 e;omega
 have hown:∀N:List Nat,(∀j∈N,j=p∨j∈gl k.vw)→∀j∈N,j∉(Svp.mk k.on LP (k.g+1) k.L k.pp).own k.q:=fun N hN j hj e=>by
  have e2:j∈k.svp.own k.q:=e;have a1:=cnt_mem.1 e2;have a2:=hle j;rcases hN j hj with e3|e3
  ·rw [e3] at a1 a2;omega
  ·have:=cnt_mem.1 e3;omega
 have hWc:=h.at_.but hb (by simpa using hpq);have hW4:=(hWc.later hb4).set 14 v4;have hW7:=((hW4.later (hb6.step_alloc o)).but b2 hpv).set 15 (.slice (some ⟨g7,0,none⟩) (k.vr.length+1+1) cap7);rw [hwF] at hW7;have hS1:=hS.but b1 (hown _ (fun j hj=>Or.inl (List.mem_singleton.1 hj))) (fun j hj=>Or.inl (by rw [List.mem_singleton.1 hj];exact hpM))
 have hS2 := hS1.wide (M' := g7 :: k.M) (fun _ hk => List.mem_cons_of_mem _ hk) (fun j hj => by
   rcases List.mem_cons.1 hj with e | e
   · rw [e]; exact hg7
   · exact Or.inl e)
 have hS3:=hS2.but b2 (hown _ (fun j hj=>Or.inr hj)) (fun j hj=>Or.inl (List.mem_cons_of_mem _ (h.inM _ (hvwM j hj))));have hS4:=hS3.but b3 (hown _ (fun j hj=>Or.inl (List.mem_singleton.1 hj))) (fun j hj=>Or.inl (by rw [List.mem_singleton.1 hj];exact List.mem_cons_of_mem _ hpM));have hMlt:∀j∈k.M,j<wc.heap.size:=fun j hj=>by have:=(h.lt j hj).2;omega
 have hP4:PoolAt (mask k.M w4) v4 LP:=mask_row hO4 (fun j hj=>hMlt j hj);have b4:But [p] w4 (w6.alloc o):=((But.refl _ _).set (by simp) _).step (hb6.step_alloc _);have hpMw:∀(wx:World),∀j∈[p],j∈k.M∨wx.heap.size≤j:=fun _ j hj=>Or.inl (by rw [List.mem_singleton.1 hj];exact hpM)
 have hP6:PoolAt (mask k.M (w6.alloc o)) v4 LP:=hP4.later (b4.mono (hpMw _));have b23:But (g7::k.M) (w6.alloc o) wF:=(b2.mono (fun j hj=>Or.inl (List.mem_cons_of_mem _ (h.inM _ (hvwM j hj))))).trans (b3.mono (fun j hj=>Or.inl (by rw [List.mem_singleton.1 hj];exact List.mem_cons_of_mem _ hpM)));have hv6:RowAt (mask k.M w6) v6 T.length (T.map Value.string):=mask_row hO6 (fun j hj=>by have:=hMlt j hj;omega);have hv7:RowAt (mask k.M (w6.alloc o)) v6 T.length (T.map Value.string):=hv6.later (But.of_bel ((Bel.refl w6).step_alloc o));rw [←mask_cons hg7] at hP6 hv7;have hwr:=(h.wrow.cons (hg7w w (by omega))).but bA (fun j hj=>Or.inl (List.mem_cons_of_mem _ (h.inM _ (hNb j hj))));refine ⟨hW7,?_,fun j hj=>?_,fun j hj=>?_,K.bel,hS4,hP6.later b23,hGd,h.cok,h.onok,⟨by show 0≤k.g+1;have:=h.gen.1;omega,by show k.g+1≤((s+1:Nat):Int);have:=h.gen.2.1;omega,fun e=>by have e2:k.g+1=0:=e;have:=h.gen.1;omega⟩,?_,?_,?_,K.speaks (hout _ (fun j=>by have:=hle j;omega)),K.held (hout _ (fun j=>by have:=hle j;omega)),h.slen,h.hlen,h.hrng,K.frames (hout _ (fun j=>by have:=hle j;omega)),h.flen,h.fsz,h.isz⟩
 ·refine List.nodup_iff_count.2 fun a=>?_
  rw [KI.count];simp only [gl_sl];have a1:=hle a;have a0:(KI.svp {k with M:=g7::k.M,B:=LP,g:=k.g+1,vb:=v4,vw:= .slice (some ⟨g7,0,none⟩) (k.vr.length+1+1) cap7,vr:=k.vr++[v6],bs:=k.bs++[LP]}).own k.q=k.svp.own k.q:=rfl;rw [a0];rcases hat with e|e
  ·have a2:(gl k.vw).count a=[g7].count a:=by rw [hvw,e];rfl
   omega
  ·by_cases hag:g7=a
   ·subst hag
    have a3:(k.blocks p).count g7=0:=Nat.eq_zero_of_not_pos fun e2=>by
     have:=(h.lt g7 (h.inM g7 (List.count_pos_iff.1 e2))).2;omega
    rw [KI.count] at a3;have a4:[g7].count g7≤1:=cnt_le (by simp) g7;omega
   ·have a4:[g7].count a=0:=Nat.eq_zero_of_not_pos fun e2=>hag (List.mem_singleton.1 (List.count_pos_iff.1 e2)).symm
    omega
 ·have a0:=cnt_mem.1 hj;rw [KI.count] at a0;simp only [gl_sl] at a0;by_cases hag:j=g7
  ·rw [hag];exact List.mem_cons_self
  ·refine List.mem_cons_of_mem _ (h.inM j (cnt_mem.2 ?_));rw [KI.count];have a4:[g7].count j=0:=Nat.eq_zero_of_not_pos fun e2=>hag (List.mem_singleton.1 (List.count_pos_iff.1 e2))
   have a5:(KI.svp {k with M:=g7::k.M,B:=LP,g:=k.g+1,vb:=v4,vw:= .slice (some ⟨g7,0,none⟩) (k.vr.length+1+1) cap7,vr:=k.vr++[v6],bs:=k.bs++[LP]}).own k.q=k.svp.own k.q:=rfl;rw [a5] at a0;omega
 ·rcases List.mem_cons.1 hj with e|hj
  ·rw [e];exact ⟨hg0,by omega⟩
  ·exact K.lt j hj
 ·show wF.ownsRow _ _ _ _ ((k.vr++[v6]).length+1) (.slice none 0 0::(k.vr++[v6]))
  have := ownB_but hown7 b3 (fun g hg e => by
    rw [gl_sl] at hg
    exact hg7p (by rw [← List.mem_singleton.1 hg, List.mem_singleton.1 e]))
  simpa using this
 ·show ((k.vr++[v6]).length:Int)=k.g+1;have:=h.wlen;simp;omega
 ·have hl:=hwr.1;refine ⟨by show (k.bs++[LP]).length=(k.vr++[v6]).length;rw [List.length_append,List.length_append,hl];rfl,fun i v X hv hX=>?_⟩;have hv':(k.vr++[v6])[i]?=some v:=hv;have hX':(k.bs++[LP])[i]?=some X:=hX;by_cases hi:i<k.vr.length
  ·rw [List.getElem?_append_left hi] at hv';rw [List.getElem?_append_left (by omega)] at hX';exact hwr.2 i v X hv' hX'
  ·have hi2:i=k.vr.length:=by
    have:=(List.getElem?_eq_some_iff.1 hv').1;rw [List.length_append,List.length_singleton] at this;omega
   subst hi2
   rw [List.getElem?_append_right (Nat.le_refl _),Nat.sub_self] at hv'
   rw [←hl,List.getElem?_append_right (Nat.le_refl _),Nat.sub_self] at hX'
   have ev:v6=v:=Option.some.inj hv'
   have eX:LP=X:=Option.some.inj hX'
   subst ev eX
   have:=hv7.later b23
   rw [hT,hTo] at this
   rw [h.wlen]
   exact this
end Go.Proofs.YtpapdkhjdelfcabGreat
