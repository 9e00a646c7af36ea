import Derived.Test.YtpapdkhjdelfcabGreatHAE
import Derived.Deep.RegionHeldLaw
import Derived.Deep.RegionLawGrows
import Derived.Deep.Onto
import Derived.Test.YtpapdkhjdelfcabGreatHAA
import Derived.Test.YtpapdkhjdelfcabGreatHAB
set_option maxRecDepth 100000
set_option maxHeartbeats 4000000
namespace Go.Proofs.YtpapdkhjdelfcabGreat
open Go.RowKit
theorem u64_range (op:BinOp) (a b:Int) (h:op= .xor∨op= .or):0≤bits op .u64 a b∧bits op .u64 a b<18446744073709551616:=by
 rcases h with rfl|rfl
 ·show 0≤IntKind.u64.wrap _∧IntKind.u64.wrap _<_;rw [IntKind.wrap_u64];omega
 ·show 0≤IntKind.u64.wrap _∧IntKind.u64.wrap _<_;rw [IntKind.wrap_u64];omega
theorem hsh_range (key:ByteArray) (l:UInt8) (n:List Nat) (t:ByteArray):0≤hsh key l n t∧hsh key l n t<18446744073709551616:=u64_range _ _ _ (Or.inl rfl)
theorem restF_range (h m:Int) (hm:1≤m):0≤restF h m∧restF h m<m:=by
 rw [restF,if_neg (by omega)];exact ⟨Int.emod_nonneg _ (by omega),Int.emod_lt_of_pos _ (by omega)⟩
theorem rest_is (h m:Int) (w:World) (h0:0≤h) (h1:h<18446744073709551616) (hm:m≤65536) (hm0:0≤m):
  Calls Tryz.prog 219 #[.int .u64 h,.int .i64 m] w fun e w'=>e= .returned (.int .i64 (restF h m))∧w=w':=by
 by_cases hlt:m<1
 ·have HE:Hid (restF h m=0):=by show restF h m=0;rw [restF,if_pos hlt]
  generalize restF h m=X at *;go_enter Tryz.func219,Tryz.ntmps219;go_wp2;go_ret;exact ⟨ret_int HE.out.symm,rfl⟩
 ·have HE:Hid (restF h m=h % m):=by show restF h m=h % m;rw [restF,if_neg hlt]
  have hr1:=Int.emod_nonneg h (show m≠0 by omega);have hr2:=Int.emod_lt_of_pos h (show 0<m by omega);generalize restF h m=X at *;go_enter Tryz.func219,Tryz.ntmps219;go_wp2;go_ret;exact ⟨ret_int HE.out.symm,rfl⟩
def icells (l:List EI):List Value:=l.flatMap fun b=>[.int .u64 b.1,.int .i64 b.2]
theorem icells_len (l:List EI):(icells l).length=l.length * 2:=by
 induction l with
 |nil=>rfl
 |cons b l ih=>simp only [icells,List.flatMap_cons,List.length_append,List.length_cons,List.length_nil] at ih ⊢;omega
theorem icells_get (l:List EI) (j:Nat) (h:j<l.length):(icells l)[j * 2]?=some (.int .u64 l[j].1)∧(icells l)[j * 2+1]?=some (.int .i64 l[j].2):=by
 induction l generalizing j with
 |nil=>simp at h
 |cons b l ih=>
  cases j with
  |zero=>simp [icells]
  |succ j=>
   obtain ⟨h1,h2⟩:=ih j (by simpa using h);have e1:(j+1) * 2=j * 2+1+1:=by omega
   rw [e1];simp only [icells,List.flatMap_cons,List.cons_append,List.nil_append,List.getElem?_cons_succ] at h1 h2 ⊢;exact ⟨h1,h2⟩
theorem icells_snoc (L:List EI) (b:EI):icells (L++[b])=icells L++[.int .u64 b.1,.int .i64 b.2]:=by simp [icells]
def EIAt (w:World) (v:Value) (l:List EI):Prop:=RowAt w v l.length (icells l)
theorem EIAt.later {a w:World} {v:Value} {l:List EI} (h:EIAt a v l) (k:Bel a w):EIAt w v l:=RowAt.later h k
theorem EIAt.open {w:World} {v:Value} {B:List EI} (h:EIAt w v B):∃ao cap,v= .slice ao B.length cap∧∀j (hj:j<B.length),∃g,ao=some ⟨g,0,none⟩∧w.cell? ⟨g,j * 2,none⟩=some (.int .u64 B[j].1)∧w.cell? ⟨g,j * 2+1,none⟩=some (.int .i64 B[j].2):=by
 rcases h with ⟨h1,h2,_⟩|⟨g,cap,hv,hn,hg,hc⟩
 ·exact ⟨none,0,by rw [h1,h2],fun j hj=>by omega⟩
 ·exact ⟨_,cap,hv,fun j hj=>⟨g,rfl,hc _ _ (icells_get B j hj).1,hc _ _ (icells_get B j hj).2⟩⟩
def OwnE (base:Nat) (w:World) (v:Value) (B:List EI):Prop:=w.ownsRow base 116 2 v B.length (icells B)
theorem OwnE.ents {base:Nat} {w:World} {v:Value} {B:List EI} (h:OwnE base w v B):EIAt w v B:=RowAt.of_owns h
theorem OwnE.snoc {base:Nat} {w:World} {v:Value} {L:List EI} {b:EI} {n:Nat} (h:w.ownsRow base 116 2 v n (icells L++[.int .u64 b.1,.int .i64 b.2])) (hn:n=L.length+1):OwnE base w v (L++[b]):=by
 unfold OwnE;rw [icells_snoc,List.length_append];subst hn;exact h
def IRow (w:World) (v:Value) (l:List Int):Prop:=RowAt w v l.length (l.map (Value.int .i64))
theorem IRow.later {a w:World} {v:Value} {l:List Int} (h:IRow a v l) (k:Bel a w):IRow w v l:=RowAt.later h k
theorem IRow.open {w:World} {v:Value} {l:List Int} (h:IRow w v l):∃ao cap,v= .slice ao l.length cap∧∀j (hj:j<l.length),∃g,ao=some ⟨g,0,none⟩∧w.cell? ⟨g,j,none⟩=some (.int .i64 l[j]):=by
 rcases h with ⟨h1,h2,_⟩|⟨g,cap,hv,hn,hg,hc⟩
 ·exact ⟨none,0,by rw [h1,h2],fun j hj=>by omega⟩
 ·exact ⟨_,cap,hv,fun j hj=>⟨g,rfl,hc j _ (by simp [hj])⟩⟩
theorem nextF_hit {E:List EI} {h:Int} {k:Nat} (hk:k<E.length) (he:h≤E[k].1) (hall:∀j (hj:j<E.length),j<k→¬h≤E[j].1):nextF E h=k:=by
 have:E.findIdx (fun e=>h≤e.1)=k:=by
  rw [List.findIdx_eq hk];exact ⟨by simpa using he,fun j hj=>by simpa using hall j (by omega) hj⟩
 rw [nextF,this,if_pos hk]
theorem nextF_none {E:List EI} {h:Int} (hall:∀j (hj:j<E.length),¬h≤E[j].1):nextF E h=0:=by
 rw [nextF,if_neg];intro hlt;have:=List.findIdx_getElem (p:=fun e:EI=>decide (h≤e.1)) (w:=hlt);exact hall _ hlt (by simpa using this)
def RNat (w:World) (x:Nat) (e:Ending) (w':World):Prop:=e= .returned (.int .i64 (x:Int))∧Bel w w'
theorem next_is (E:List EI) (v:Value) (h:Int) (w:World) (hP:EIAt w v E) (hB:E.length≤65536):
  Calls Tryz.prog 218 #[v,.int .u64 h] w (RNat w (nextF E h)):=by
 obtain ⟨ao,cap,rfl,hc⟩:=hP.open;obtain ⟨X,hX⟩:∃X,X=nextF E h:=⟨_,rfl⟩;have HX:=Hid.mk hX;rw [←hX];clear hX;go_enter Tryz.func218,Tryz.ntmps218;go_wp2;go_loopg [9] E.length (fun r n wr=>Bel w wr∧∃k:Nat,r=E.length - k∧k≤E.length∧n= .int .i64 k∧∀j (hj:j<E.length),j<k→¬h≤E[j].1)
 case atStart=>exact ⟨Bel.refl _,0,by omega,by omega,rfl,fun j _ h=>by omega⟩
 case round=>
  obtain ⟨hb,k,hr,hk,rfl,hall⟩:=hrel;have HA:=Hid.mk hall;clear hall;by_cases hlt:k<E.length
  ·obtain ⟨g,rfl,c0,c1⟩:=hc k hlt;have c0':=hb.cell c0;have c1':=hb.cell c1;clear hc c0 c1;by_cases hge:h≤E[k].1
   ·have hfin:Hid (X=k):=by show X=k;rw [HX.out];exact nextF_hit hlt hge HA.out
    have hd:decide (E[k].1≥h)=true:=decide_eq_true hge;generalize E[k].1=pk at *;generalize E[k].2=ok at *;go_wp2;go_ret;exact ⟨ret_int (by rw [hfin.out]),by (repeat (first|exact Bel.refl _|assumption|refine Bel.step_alloc ?_ _|refine Bel.step_drew ?_|refine Bel.step_drewN ?_ _|refine Bel.step_set ?_ (by simp <;>omega) _|refine Bel.trans ?_ (by assumption)))⟩
   ·have hstep:Hid (∀j (hj:j<E.length),j<k+1→¬h≤E[j].1):=fun j hj hjk=>by
     by_cases he:j=k
     ·subst he;exact hge
     ·exact HA.out j hj (by omega)
    have hd:decide (E[k].1≥h)=false:=decide_eq_false hge
    generalize E[k].1=pk at *
    generalize E[k].2=ok at *
    go_wp2
    go_roundg (E.length - (k+1))
    case measure=>omega
    case rel=>exact ⟨by (repeat (first|exact Bel.refl _|assumption|refine Bel.step_alloc ?_ _|refine Bel.step_drew ?_|refine Bel.step_drewN ?_ _|refine Bel.step_set ?_ (by simp <;>omega) _|refine Bel.trans ?_ (by assumption))),k+1,rfl,by omega,by go_num,hstep.out⟩
  ·have hfin:Hid (X=0):=by show X=0;rw [HX.out];exact nextF_none (fun j hj=>HA.out j hj (by omega))
   clear hc;go_wp2;go_ret;exact ⟨ret_int (by rw [hfin.out];rfl),by (repeat (first|exact Bel.refl _|assumption|refine Bel.step_alloc ?_ _|refine Bel.step_drew ?_|refine Bel.step_drewN ?_ _|refine Bel.step_set ?_ (by simp <;>omega) _|refine Bel.trans ?_ (by assumption)))⟩
theorem greatest_is (R:List Int) (v:Value) (w:World) (hP:IRow w v R) (hB:R.length≤65536):
  Calls Tryz.prog 220 #[v] w (RSum w (bestF R)):=by
 obtain ⟨ao,cap,rfl,hc⟩:=hP.open;obtain ⟨X,hX⟩:∃X,X=bestF R:=⟨_,rfl⟩;have HX:=Hid.mk hX;rw [←hX];clear hX;go_enter Tryz.func220,Tryz.ntmps220;go_wp2;go_loopg [3,4,9] R.length (fun r b m n wr=>w=wr∧∃k:Nat,r=R.length - k∧k≤R.length∧n= .int .i64 k∧b= .int .i64 (bestTo R k).1∧m= .int .i64 (bestTo R k).2)
 case atStart=>exact ⟨rfl,0,by omega,by omega,rfl,rfl,rfl⟩
 case round=>
  obtain ⟨rfl,k,hr,hk,rfl,rfl,rfl⟩:=hrel;by_cases hlt:k<R.length
  ·obtain ⟨g,rfl,c0⟩:=hc k hlt
   have HS:Hid (bestTo R (k+1)=if (bestTo R k).2<R[k] then ((k:Int),R[k]) else bestTo R k):=by
    show bestTo R (k+1)=_;rw [bestTo,List.getD_eq_getElem?_getD,List.getElem?_eq_getElem hlt];rfl
   clear hc;generalize R[k]=rk at *;generalize bestTo R k=b at *;obtain ⟨b1,b2⟩:=b;simp only at HS;by_cases hg:b2<rk
   ·rw [if_pos hg] at HS;have hd:decide (rk>b2)=true:=decide_eq_true hg;go_wp2;go_roundg (R.length - (k+1))
    case measure=>omega
    case rel=>exact ⟨rfl,k+1,rfl,by omega,by go_num,by rw [HS.out],by rw [HS.out]⟩
   ·rw [if_neg hg] at HS;have hd:decide (rk>b2)=false:=decide_eq_false hg;go_wp2;go_roundg (R.length - (k+1))
    case measure=>omega
    case rel=>exact ⟨rfl,k+1,rfl,by omega,by go_num,by rw [HS.out],by rw [HS.out]⟩
  ·have hfin:Hid (X=(bestTo R k).1):=by
    show X=_;rw [HX.out,bestF,show k=R.length from by omega]
   clear hc
   generalize bestTo R k=b at *
   go_wp2
   go_ret
   exact ⟨ret_int hfin.out.symm,by (repeat (first|exact Bel.refl _|assumption|refine Bel.step_alloc ?_ _|refine Bel.step_drew ?_|refine Bel.step_drewN ?_ _|refine Bel.step_set ?_ (by simp <;>omega) _|refine Bel.trans ?_ (by assumption)))⟩
end Go.Proofs.YtpapdkhjdelfcabGreat
namespace Go.Proofs.YtpapdkhjdelfcabGreat
open Go.RowKit
theorem step_append_own {P:Program} {ops:Array Oper} {o:Oper} {a:Act} {w:World} {K:Act→World→Prop} {Q:Exit→Act→World→Prop} {E:Prop}
  (hg:o.guard=none) (s x:Operand) (t:TypeId) (hop:o.op=Op.call {callee:=Callee.builtin Builtin.append,args:=#[s,x],argTypes:=#[t,t]})
  (base:Nat) (e:TypeId) (i:TypeInfo) (z:Value) (size bytes:Nat) (h1:P.underlying t=some (.slice e)) (h2:P.info? e=some i) (h3:i.zero=some z) (h4:i.size=size) (h5:i.bytes=bytes) (h6:z.cells.size=size) (h7:0<size)
  (v:Value) (n:Nat) (xs:List Value) (hs:a.eval s=v) (hown:w.ownsRow base e size v n xs)
  (ad:Addr) (m c:Nat) (news:List Value) (hx:a.eval x= .slice (some ad) m c) (hn:news.length=m * size) (hc:∀j u,news[j]?=some u→w.cell? (ad.add j)=some u) (h1c:∀u∈news,u.oneCell'=true)
  (b1:n+m≤maxLen) (b2:(n+m) * bytes≤140737488355328) (hbase:base≤w.heap.size)
  (hK:∀v' w',w'.ownsRow base e size v' (n+m) (xs++news)→w.grownBy w' v.ownBlock→K (a.put o.dst v') w'):
  if Region.wanted o (yielded ops a.tmps)=true then Oper.wp P o a w K Q else E:=by
 have hw:Region.wanted o (yielded ops a.tmps)=true:=by simp [Region.wanted,hg]
 rw [if_pos hw];obtain ⟨v',w',hrun,r1,r2,_⟩:=run_append_own (P:=P) w base t o.type e i z size bytes h1 h2 h3 h4 h5 h6 h7 v n xs hown ad m c news hn hc h1c b1 b2 hbase;unfold Oper.wp;simp [execOp,hop,resolve,invoke,builtin,hs,hx,hrun,Result.andThen];exact hK v' w' r1 r2
theorem freeF_hit {S:List Int} {y:Int×Int} {k:Nat} (hk:k<S.length) (hfree:S.getD (stepOf S.length y k) 0<0) (hall:∀i,i<k→¬S.getD (stepOf S.length y i) 0<0):freeF S y=some (stepOf S.length y k):=by
 rw [freeF,List.find?_eq_some_iff_getElem];refine ⟨by simpa using hfree,k,by simpa using hk,by simp,fun j hj=>?_⟩;simpa using hall j hj
theorem freeF_none {S:List Int} {y:Int×Int} (hall:∀i,i<S.length→¬S.getD (stepOf S.length y i) 0<0):freeF S y=none:=by
 rw [freeF,List.find?_eq_none];intro x hx;obtain ⟨i,hi,rfl⟩:=List.mem_map.1 hx;simpa using hall i (by simpa using hi)
theorem stepOf_lt {n:Nat} (y:Int×Int) (i:Nat) (hn:0<n):stepOf n y i<n:=by
 unfold stepOf;have h1:=Int.emod_nonneg (y.1+i * y.2) (show (n:Int)≠0 by omega);have h2:=Int.emod_lt_of_pos (y.1+i * y.2) (show (0:Int)<n by omega);omega
def slotE (S:List Int):List EI:=S.map fun o=>(0,o)
theorem slotE_len (S:List Int):(slotE S).length=S.length:=by simp [slotE]
def freeI:Option Nat→Int
 |some k=>k
 |none=> -1
def RFree (w:World) (x:Option Nat) (e:Ending) (w':World):Prop:=e= .returned (.int .i64 (freeI x))∧Bel w w'
theorem firstFree_is (S:List Int) (v:Value) (y:Int×Int) (w:World) (hP:EIAt w v (slotE S)) (hB:S.length≤300) (hy1:0≤y.1) (hy2:y.1≤300) (hy3:0≤y.2) (hy4:y.2≤300):
  Calls Tryz.prog 183 #[v,.agg #[.int .i64 y.1,.int .i64 y.2]] w (RFree w (freeF S y)):=by
 obtain ⟨ao,cap,rfl,hc⟩:=hP.open;rw [slotE_len];obtain ⟨X,hX⟩:∃X,X=freeF S y:=⟨_,rfl⟩;have HX:=Hid.mk hX;rw [←hX];clear hX;obtain ⟨off,sk⟩:=y;simp only at hy1 hy2 hy3 hy4 ⊢;go_enter Tryz.func183,Tryz.ntmps183;go_wp2;obtain ⟨wm,hwm⟩:∃wm,wm=w.alloc (.cells #[.int .i64 off,.int .i64 sk] 211):=⟨_,rfl⟩;have m0:wm.cell? ⟨w.heap.size,0,none⟩=some (.int .i64 off):=by rw [hwm];simp
 have m1:wm.cell? ⟨w.heap.size,1,none⟩=some (.int .i64 sk):=by rw [hwm];simp
 have hwb:Bel w wm:=by rw [hwm];exact (Bel.refl w).step_alloc _
 rw [←hwm];clear hwm;go_loopg [9] S.length (fun r n wr=>wm=wr∧∃k:Nat,r=S.length - k∧k≤S.length∧n= .int .i64 k∧∀i,i<k→¬S.getD (stepOf S.length (off,sk) i) 0<0)
 case atStart=>exact ⟨rfl,0,by omega,by omega,rfl,fun j h=>by omega⟩
 case round=>
  obtain ⟨rfl,k,hr,hk,rfl,hall⟩:=hrel;have HA:=Hid.mk hall;clear hall;by_cases hlt:k<S.length
  ·have hk1:0≤(k:Int) * sk:=Int.mul_nonneg (by omega) hy3;have hk2:(k:Int) * sk≤300 * 300:=Int.mul_le_mul (by omega) hy4 hy3 (by omega);have hjl:=stepOf_lt (off,sk) k (show 0<S.length by omega)
   have hj:(off+(k:Int) * sk) % (S.length:Int)=((stepOf S.length (off,sk) k:Nat):Int):=by
    have:=Int.emod_nonneg (off+(k:Int) * sk) (show (S.length:Int)≠0 by omega);exact (Int.toNat_of_nonneg this).symm
   obtain ⟨g,rfl,c0,c1⟩:=hc (stepOf S.length (off,sk) k) (by rw [slotE_len];exact hjl);have c1':=hwb.cell c1
   have hsv:(slotE S)[stepOf S.length (off,sk) k]'(by rw [slotE_len];exact hjl)=(0,S.getD (stepOf S.length (off,sk) k) 0):=by
    simp [slotE,List.getD_eq_getElem?_getD,hjl]
   rw [hsv] at c1';simp only at c1';clear hc c0 c1 hsv;by_cases hf:S.getD (stepOf S.length (off,sk) k) 0<0
   ·have hfin:Hid (freeI X=((stepOf S.length (off,sk) k:Nat):Int)):=by
     show freeI X=_;rw [HX.out,freeF_hit hlt hf HA.out];rfl
    generalize S.getD (stepOf S.length (off,sk) k) 0=sv at *
    generalize stepOf S.length (off,sk) k=j at *
    have hnz:((S.length:Int)==0)=false:=by rw [beq_eq_false_iff_ne];omega
    go_wp2
    go_ret
    exact ⟨ret_int hfin.out.symm,hwb⟩
   ·have hstep:Hid (∀i,i<k+1→¬S.getD (stepOf S.length (off,sk) i) 0<0):=fun i hi=>by
     by_cases he:i=k
     ·subst he;exact hf
     ·exact HA.out i (by omega)
    generalize S.getD (stepOf S.length (off,sk) k) 0=sv at *
    generalize stepOf S.length (off,sk) k=j at *
    have hnz:((S.length:Int)==0)=false:=by rw [beq_eq_false_iff_ne];omega
    go_wp2
    go_roundg (S.length - (k+1))
    case measure=>omega
    case rel=>exact ⟨rfl,k+1,rfl,by omega,by go_num,hstep.out⟩
  ·have hfin:Hid (freeI X= -1):=by
    show freeI X= -1;rw [HX.out,freeF_none (fun i hi=>HA.out i (by omega))];rfl
   clear hc
   go_wp2
   go_ret
   exact ⟨ret_int hfin.out.symm,hwb⟩
end Go.Proofs.YtpapdkhjdelfcabGreat
namespace Go.Proofs.YtpapdkhjdelfcabGreat
open Go.RowKit
variable {K:Nat→Option Obj}
theorem own_laterW {base:Nat} {e:TypeId} {s:Nat} {w w':World} {v:Value} {n:Nat} {xs:List Value} (h:w.ownsRow base e s v n xs) (k:Bel w w'):w'.ownsRow base e s v n xs:=
 World.ownsRow.kept h (row := none) ⟨k.below.os, k.below.tape, k.below.output, k.size, fun j hj _ => k.block j hj⟩ (by
   cases hv : v.ownBlock
   · exact Or.inl rfl
   · exact Or.inr (by simp))
theorem own_sliceW {w:World} {base:Nat} {e:TypeId} {size:Nat} {v:Value} {n:Nat} {xs:List Value} (h:w.ownsRow base e size v n xs):∃ao cap,v= .slice ao n cap:=by
 rcases h.2 with ⟨h1,h2⟩|⟨g,cap,cur,h1,_⟩
 ·exact ⟨none,0,by rw [h1,h2]⟩
 ·exact ⟨_,_,h1⟩
def byteU (b:UInt8):Value:= .int .u8 (b.toNat:Int)
theorem Tryz.infoU8:(Tryz.prog.info? 5).map (fun i=>(i.zero,i.size,i.bytes))=some (some (.int .u8 0),1,1):=by kernel_rfl
def KpB (K:Nat→Option Obj) (p:Nat) (v:Value) (w:World):Prop:=∀k o,K k=some o→w.heap[k]?=some o∧k≠p∧v.ownBlock≠some k∧∀cur,o≠ .cells cur 5 (0,0)
theorem KpB.but {p:Nat} {v:Value} {w w':World} (h:KpB K p v w) (b:But [p] w w'):KpB K p v w':=fun k o hk=>by
 obtain ⟨h1,h2,h3,h4⟩:=h k o hk
 have hlt:k<w.heap.size:=by
  rcases Nat.lt_or_ge k w.heap.size with h|h
  ·exact h
  ·rw [Array.getElem?_eq_none h] at h1;cases h1
 exact ⟨(b.block k hlt (by simpa using h2)).trans h1,h2,h3,h4⟩
theorem KpB.bel {p:Nat} {v:Value} {w w':World} (h:KpB K p v w) (b:Bel w w'):KpB K p v w':=h.but (But.of_bel b)
def WrI (K:Nat→Option Obj) (W0:World) (p:Nat) (L:List Bool) (w:World):Prop:=Bel W0 w∧W0.heap.size≤p∧∃(v:Value) (Bs:List UInt8) (R:List Bool),L=bytesBits Bs++R∧R.length<8∧
 (w.cell? ⟨p,0,none⟩=some v∧w.cell? ⟨p,1,none⟩=some (.int .u8 (valB R:Int))∧w.cell? ⟨p,2,none⟩=some (.int .u64 (R.length:Int)))∧(∀j,w.frozen? ⟨p,j,none⟩=false)∧
 w.ownsRow W0.heap.size 5 1 v Bs.length (Bs.map byteU)∧v.ownBlock≠some p∧KpB K p v w
theorem WrI.later {W0:World} {p:Nat} {L:List Bool} {w w':World} (h:WrI K W0 p L w) (b:Bel w w'):WrI K W0 p L w':=by
 obtain ⟨h1,h2,v,Bs,R,r1,r2,⟨c0,c1,c2⟩,hf,ho,hn,hk⟩:=h;refine ⟨h1.trans b,h2,v,Bs,R,r1,r2,⟨b.cell c0,b.cell c1,b.cell c2⟩,fun j=>?_,own_laterW ho b,hn,hk.bel b⟩;rw [b.below.frozen (p:=⟨p,j,none⟩) (World.block_lt_of_cell? w ⟨p,0,none⟩ c0)];exact hf j
def RWr (K:Nat→Option Obj) (W0:World) (p:Nat) (L:List Bool) (e:Ending) (w':World):Prop:=e= .returned (.tuple #[])∧WrI K W0 p L w'
theorem WrI.keep {W0:World} {p:Nat} {L:List Bool} {w:World} (h:WrI K W0 p L w) {k:Nat} {o:Obj} (hk:w.heap[k]?=some o) (hp:k≠p) (ho:∀cur,o≠ .cells cur 5 (0,0)):WrI (fun j=>if j=k then some o else K j) W0 p L w:=by
 obtain ⟨h1,h2,v,Bs,R,r1,r2,hc,hf,hw,hn,hK⟩:=h;refine ⟨h1,h2,v,Bs,R,r1,r2,hc,hf,hw,hn,fun j o' hj=>?_⟩;by_cases hjk:j=k
 ·subst hjk;have e:o=o':=by simpa using hj
  subst e;refine ⟨hk,hp,fun e=>?_,ho⟩;rcases hw.2 with ⟨g1,_⟩|⟨g,cap,cur,g1,_,g2,_⟩
  ·rw [g1] at e;cases e
  ·rw [g1] at e;have:g=j:=by simpa [Value.ownBlock] using e
   subst this;rw [hk] at g2;injection g2 with g2
   exact ho _ g2
 ·exact hK j o' (by simpa [hjk] using hj)
theorem WrI.drop {W0:World} {p:Nat} {L:List Bool} {w:World} {K':Nat→Option Obj} (h:WrI K W0 p L w) (hk:∀k o,K' k=some o→K k=some o):WrI K' W0 p L w:=by
 obtain ⟨h1,h2,v,Bs,R,r1,r2,hc,hf,hw,hn,hK⟩:=h;exact ⟨h1,h2,v,Bs,R,r1,r2,hc,hf,hw,hn,fun j o hj=>hK j o (hk j o hj)⟩
theorem WrI.block {W0:World} {p:Nat} {L:List Bool} {w:World} {k:Nat} {o:Obj} (h:WrI K W0 p L w) (hk:K k=some o):w.heap[k]?=some o:=by
 obtain ⟨h1,h2,v,Bs,R,r1,r2,hc,hf,hw,hn,hK⟩:=h;exact (hK k o hk).1
theorem WrI.lt {W0:World} {p:Nat} {L:List Bool} {w:World} (h:WrI K W0 p L w):p<w.heap.size:=by
 obtain ⟨h1,h2,v,Bs,R,r1,r2,⟨c0,_⟩,hf,hw,hn,hK⟩:=h;exact World.block_lt_of_cell? w _ c0
theorem or_bit (v b:Nat) (hv:v<128) (hb:b<2):bits .or .u8 ((v:Int) * 2) (b:Int)=((2 * v+b:Nat):Int):=by
 have e:((v:Int) * 2)=((v * 2 ^ 1:Nat):Int):=by omega
 rw [e,u8_or_nat _ _ (by omega) (by omega)]
 have:(v * 2 ^ 1)|||b=v * 2 ^ 1+b:=by
  rw [Nat.mul_comm];exact (Nat.two_pow_add_eq_or_of_lt (by omega) v).symm
 rw [this];omega
theorem wr_two {W0 w:World} {p:Nat} {v:Value} {n:Nat} {xs:List Value} {u1 u2:Value} (a c:Value) (h1:Bel W0 w) (h2:W0.heap.size≤p) (c0:w.cell? ⟨p,0,none⟩=some v) (c1:w.cell? ⟨p,1,none⟩=some u1) (c2:w.cell? ⟨p,2,none⟩=some u2)
  (hf:∀j,w.frozen? ⟨p,j,none⟩=false) (ho:w.ownsRow W0.heap.size 5 1 v n xs) (hn:v.ownBlock≠some p) (hK:KpB K p v w) (V:World) (hV:V=(w.setCell ⟨p,1,none⟩ a).setCell ⟨p,2,none⟩ c):
  Bel W0 V∧V.cell? ⟨p,0,none⟩=some v∧V.cell? ⟨p,1,none⟩=some a∧V.cell? ⟨p,2,none⟩=some c∧(∀j,V.frozen? ⟨p,j,none⟩=false)∧V.ownsRow W0.heap.size 5 1 v n xs∧KpB K p v V:=by
 subst hV;refine ⟨(h1.step_set (p:=⟨p,1,none⟩) h2 _).step_set (p:=⟨p,2,none⟩) h2 _,?_,?_,?_,fun j=>?_,?_,hK.but (((But.refl _ _).set (by simp) _).set (by simp) _)⟩
 ·rw [set_other (by simp),set_other (by simp)];exact c0
 ·rw [set_other (by simp)];exact set_same c1
 ·exact set_same (v:=u2) (by rw [set_other (by simp)];exact c2)
 ·rw [frozen_set,frozen_set];exact hf j
 ·exact ownsRow_setCell_other (ownsRow_setCell_other ho hn _) hn _
theorem wr_grown {V X w5:World} {p base:Nat} {v v5:Value} {n n5:Nat} {xs news:List Value} {a c:Value} {x0:Int} {rest:List Value} (hb:Bel V X) (hg:X.grownBy w5 v.ownBlock) (hn:v.ownBlock≠some p)
  (k2:V.cell? ⟨p,0,none⟩=some v) (k3:V.cell? ⟨p,1,none⟩=some a) (k4:V.cell? ⟨p,2,none⟩=some c) (hF:∀j,V.frozen? ⟨p,j,none⟩=false)
  (ho:V.ownsRow base 5 1 v n xs) (h5:w5.ownsRow base 5 1 v5 n5 news) (hx:news= .int .u8 x0::rest) (hK:KpB K p v V):
  w5.cell? ⟨p,0,none⟩=some v∧w5.cell? ⟨p,1,none⟩=some a∧w5.cell? ⟨p,2,none⟩=some c∧(∀j,w5.frozen? ⟨p,j,none⟩=false)∧v5.ownBlock≠some p∧KpB K p v5 w5:=by
 have hp:p<V.heap.size:=World.block_lt_of_cell? V _ k2;have hpX:p<X.heap.size:=Nat.lt_of_lt_of_le hp hb.size;have hbl:=hg.block p hpX (fun e=>hn (by rw [e]))
 have hc:∀j u,V.cell? ⟨p,j,none⟩=some u→w5.cell? ⟨p,j,none⟩=some u:=fun j u h=>by
  have:=hb.cell h;rw [World.cell?_of_block hbl];exact this
 have h0:=hc 0 _ k2;refine ⟨h0,hc 1 _ k3,hc 2 _ k4,fun j=>?_,fun e=>?_,fun k o hk=>?_⟩
 ·rw [World.frozen?_of_block (w:=X) hbl,hb.below.frozen (p:=⟨p,j,none⟩) hp];exact hF j
 ·have:=h5.cells e 0 (.int .u8 x0) (by rw [hx];rfl);have hadd:(⟨p,0,none⟩:Addr).add 0=⟨p,0,none⟩:=by unfold Addr.add;split <;>simp_all
  rw [hadd,h0] at this;rcases ho.2 with ⟨h1,_⟩|⟨g,cap,cur,h1,_⟩<;>rw [h1] at this <;>cases this
 ·obtain ⟨q1,q2,q3,q4⟩:=hK.bel hb k o hk
  have hlt:k<X.heap.size:=by
   rcases Nat.lt_or_ge k X.heap.size with h|h
   ·exact h
   ·rw [Array.getElem?_eq_none h] at q1;cases q1
  have q5:w5.heap[k]?=some o:=(hg.block k hlt (fun e=>q3 (by rw [e]))).trans q1;refine ⟨q5,q2,fun e=>?_,q4⟩;rcases h5.2 with ⟨g1,_⟩|⟨g,cap,cur,g1,_,g2,_⟩
  ·rw [g1] at e;cases e
  ·rw [g1] at e;have:g=k:=by simpa [Value.ownBlock] using e
   subst this;rw [q5] at g2;injection g2 with g2
   exact q4 _ g2
theorem gX {X w5:World} {row:Option Nat} (_:X.grownBy w5 row) (V:World) (hb:Bel V X):Bel V X:=hb
theorem byte_of (R:List Bool) (h:R.length=8):byteU (UInt8.ofNat (valB R))= .int .u8 (valB R:Int):=by
 have:=valB_lt R;rw [h] at this;unfold byteU;congr 1;simp;omega
theorem wr_end {W0 w5:World} {p:Nat} {v:Value} {L R:List Bool} {b:Bool} {Bs:List UInt8} {s5 u1 u2:Value} {y:Int} (hB:Bel W0 w5) (h2:W0.heap.size≤p) (g2:w5.cell? ⟨p,0,none⟩=some v) (g3:w5.cell? ⟨p,1,none⟩=some u1) (g4:w5.cell? ⟨p,2,none⟩=some u2)
  (hf:∀j,w5.frozen? ⟨p,j,none⟩=false) (ho:w5.ownsRow W0.heap.size 5 1 s5 (Bs.length+1) (Bs.map byteU++[.int .u8 y])) (hn:s5.ownBlock≠some p) (hK:KpB K p s5 w5) (hL:L=bytesBits Bs++R) (hR:7=R.length) (hy:y=((2 * valB R+b.toNat:Nat):Int)):
  RWr K W0 p (L++[b]) (.returned (.tuple #[])) (((w5.setCell ⟨p,0,none⟩ s5).setCell ⟨p,1,none⟩ (.int .u8 0)).setCell ⟨p,2,none⟩ (.int .u64 0)):=by
 have h8:(R++[b]).length=8:=by simp;omega
 refine ⟨rfl,((hB.step_set (p:=⟨p,0,none⟩) h2 _).step_set (p:=⟨p,1,none⟩) h2 _).step_set (p:=⟨p,2,none⟩) h2 _,h2,s5,Bs++[UInt8.ofNat (valB (R++[b]))],[],?_,by simp,⟨?_,?_,?_⟩,fun j=>?_,?_,hn,hK.but ((((But.refl _ _).set (by simp) _).set (by simp) _).set (by simp) _)⟩
 ·rw [bytesBits_snoc,byteBits_val _ h8,hL];simp
 ·rw [set_other (by simp),set_other (by simp)];exact set_same g2
 ·rw [set_other (by simp)];exact set_same (v:=u1) (by rw [set_other (by simp)];exact g3)
 ·exact set_same (v:=u2) (by rw [set_other (by simp),set_other (by simp)];exact g4)
 ·rw [frozen_set,frozen_set,frozen_set];exact hf j
 ·have e:(Bs++[UInt8.ofNat (valB (R++[b]))]).map byteU=Bs.map byteU++[.int .u8 y]:=by
   rw [List.map_append,List.map_cons,List.map_nil,byte_of _ h8,hy,valB_snoc]
  rw [e,List.length_append]
  exact ownsRow_setCell_other (ownsRow_setCell_other (ownsRow_setCell_other ho hn _) hn _) hn _
theorem wbit_is (W0:World) (p:Nat) (L:List Bool) (b:Bool) (w:World) (h:WrI K W0 p L w) (hL:L.length≤1099511627776):
  Calls Tryz.prog 210 #[.pointer (some ⟨p,0,none⟩),.int .u8 (b.toNat:Int)] w (RWr K W0 p (L++[b])):=by
 obtain ⟨i0,hi,hz0,hz1,hz2⟩:=info_parts Tryz.infoU8;obtain ⟨h1,h2,v,Bs,R,r1,r2,⟨c0,c1,c2⟩,hf,ho,hn,hkp⟩:=h;have HKP:=Hid.mk hkp;clear hkp;have f0:=hf 0;have f1:=hf 1;have f2:=hf 2;have hv:=valB_lt R
 have hv7 : valB R < 128 := Nat.lt_of_lt_of_le hv (by
   have : (2 : Nat) ^ R.length ≤ 2 ^ 7 := Nat.pow_le_pow_right (by decide) (by omega)
   simpa using this)
 have hb2:b.toNat<2:=by have:=Bool.toNat_le b;omega
 have hor:=or_bit (valB R) b.toNat hv7 hb2;have hsn:=valB_snoc R b;have hrl:(R++[b]).length=R.length+1:=by simp
 obtain ⟨x,hx⟩:∃x:Int,x=(valB R:Int):=⟨_,rfl⟩;obtain ⟨y,hy⟩:∃y:Int,y=((2 * valB R+b.toNat:Nat):Int):=⟨_,rfl⟩;obtain ⟨z,hz⟩:∃z:Int,z=(b.toNat:Int):=⟨_,rfl⟩;obtain ⟨n,hn0⟩:∃n:Nat,n=R.length:=⟨_,rfl⟩;rw [←hx] at c1;rw [←hn0] at c2;rw [←hx,←hy,←hz] at hor;rw [←hz];have hx0:0≤x:=by omega
 have hx1:x<128:=by omega
 have hn7:n<8:=by omega
 have HX:=Hid.mk hx;have HY:=Hid.mk hy;have HN:=Hid.mk hn0;have HL:=Hid.mk r1;have HO:=Hid.mk ho;have HW:=Hid.mk hn;clear hx hy hz hn0 r1 ho hn hsn hrl r2 hv hv7 hb2;by_cases h7:n<7
 ·obtain ⟨V,hV⟩:∃V,V=(w.setCell ⟨p,1,none⟩ (.int .u8 y)).setCell ⟨p,2,none⟩ (.int .u64 ((n:Int)+1)):=⟨_,rfl⟩;have HT:=Hid.mk (wr_two _ _ h1 h2 c0 c1 c2 hf HO.out HW.out HKP.out V hV);go_enter Tryz.func210,Tryz.ntmps210;go_wp2;go_end0;rw [←hV];obtain ⟨k1,k2,k3,k4,k5,k6,k7⟩:=HT.out;refine ⟨rfl,k1,h2,v,Bs,R++[b],by rw [HL.out];simp,by have:=HN.out;simp;omega,⟨k2,?_,?_⟩,k5,k6,HW.out,k7⟩
  ·rw [k3,HY.out,valB_snoc]
  ·rw [k4];have:=HN.out;simp [this]
 ·obtain rfl:n=7:=by omega
  replace c2:w.cell? ⟨p,2,none⟩=some (.int .u64 7):=c2;obtain ⟨V,hV⟩:∃V,V=(w.setCell ⟨p,1,none⟩ (.int .u8 y)).setCell ⟨p,2,none⟩ (.int .u64 8):=⟨_,rfl⟩;have HT:=Hid.mk (wr_two _ _ h1 h2 c0 c1 c2 hf HO.out HW.out HKP.out V hV);go_enter Tryz.func210,Tryz.ntmps210;go_wp2_with fail;rw [←hV];obtain ⟨k1,k2,k3,k4,k5,k6,k7⟩:=HT.out;have HK7:=Hid.mk k7;clear hV HT c0 c1 c2 f0 f1 f2 hf h1 HO k7 HKP;have f0:=k5 0;have f1:=k5 1;have f2:=k5 2;have HF:=Hid.mk k5;have HO:=Hid.mk k6;clear k5 k6;have hVs:W0.heap.size≤V.heap.size:=k1.size;have hpV:p<V.heap.size:=World.block_lt_of_cell? V _ k2
  obtain ⟨x9,rs9,hx9⟩:∃x9 rs9,Hid (Bs.map byteU++[.int .u8 y]= .int .u8 x9::rs9):=by
   cases Bs with
   |nil=>exact ⟨_,_,rfl⟩
   |cons b0 r0=>exact ⟨_,_,rfl⟩
  have hbs:Bs.length≤1099511627776:=by
   have:=congrArg List.length HL.out;rw [List.length_append,bytesBits_len] at this;omega
  go_region_law (refine step_append_own rfl (.tmp 30) (.tmp 35) 105 rfl W0.heap.size 5 i0 (.int .u8 0) 1 1 Tryz.underlying105 hi hz0 hz1 hz2 rfl (by decide) v Bs.length (Bs.map byteU) (by simp [Act.eval]) (World.ownsRow.alloc HO.out _) ⟨V.heap.size, 0, none⟩ 1 1 [.int .u8 y] (by simp [Act.eval]) rfl (one_new _ _ _ _ rfl) (fun u hu => by simp at hu; subst hu; rfl) (by unfold maxLen; omega) (by omega) (by simp; omega) ?_
                 intro v5 w5 hown5 hgrow5
                 obtain ⟨ao5, cap5, rfl⟩ := own_sliceW hown5
                 have hbX := gX hgrow5 V (by first | exact ((Bel.refl V).step_drew).step_alloc _ | exact ((Bel.refl V).step_alloc _).step_drew | exact (Bel.refl V).step_alloc _)
                 have hG := wr_grown (x0 := x9) (rest := rs9) hbX hgrow5 HW.out k2 k3 k4 HF.out HO.out hown5 hx9.out HK7.out
                 have hB5 : Bel W0 w5 := (k1.trans hbX).grown hgrow5 (fun g hg => (World.ownsRow.lt HO.out g hg).1)
                 have HO5 := Hid.mk hown5
                 obtain ⟨g2, g3, g4, g5, g6, g7⟩ := hG
                 have HK5 := Hid.mk g7
                 have HF5 := Hid.mk g5
                 have f50 := g5 0
                 have f51 := g5 1
                 have f52 := g5 2
                 have HN5 := Hid.mk g6
                 clear g5 g6 g7 hown5 hgrow5 hbX)
  all_goals
   clear k2 k3 k4;go_wp2;go_end0;exact wr_end hB5 h2 g2 g3 g4 HF5.out HO5.out HN5.out HK5.out HL.out HN.out HY.out
end Go.Proofs.YtpapdkhjdelfcabGreat
