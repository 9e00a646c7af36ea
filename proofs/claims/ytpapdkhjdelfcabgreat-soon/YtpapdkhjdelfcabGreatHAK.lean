import Derived.Test.YtpapdkhjdelfcabGreatHAJ
import Derived.Deep.RegionHeld3
set_option maxRecDepth 100000
set_option maxHeartbeats 4000000
namespace Go.Proofs.YtpapdkhjdelfcabGreat
open Go.RowKit
def OwnX (base g cap:Nat) (w:World) (X:List EI):Prop:=w.ownsRow base 116 2 (sl g X.length cap) X.length (icells X)
theorem icells_set (X:List EI) (k:Nat) (e:EI):icells (X.set k e)=((icells X).set (k * 2) (.int .u64 e.1)).set (k * 2+1) (.int .i64 e.2):=by
 induction X generalizing k with
 |nil=>simp [icells]
 |cons s S ih=>
  cases k with
  |zero=>simp [icells]
  |succ k=>
   have e1:(k+1) * 2=k * 2+1+1:=by omega
   have:=ih k;simp only [icells,List.set_cons_succ,List.flatMap_cons,List.cons_append,List.nil_append,e1] at this ⊢;rw [this]
theorem OwnX.set {base g cap:Nat} {w:World} {X:List EI} (h:OwnX base g cap w X) (k:Nat) (a b:Int):OwnX base g cap ((w.setCell ⟨g,k * 2,none⟩ (.int .u64 a)).setCell ⟨g,k * 2+1,none⟩ (.int .i64 b)) (X.set k (a,b)):=by
 have h1:=(World.ownsRow.stored h (k * 2) (.int .u64 a)).1;have h2:=(World.ownsRow.stored h1 (k * 2+1) (.int .i64 b)).1;unfold OwnX;rw [icells_set,sl,List.length_set];exact h2
theorem OwnX.get {base g cap:Nat} {w:World} {X:List EI} (h:OwnX base g cap w X) (j:Nat) (hj:j<X.length):w.cell? ⟨g,j * 2,none⟩=some (.int .u64 X[j].1)∧w.cell? ⟨g,j * 2+1,none⟩=some (.int .i64 X[j].2):=by
 have:=icells_get X j hj;exact ⟨by rw [World.ownsRow.cellAt h (j * 2) (by omega)];exact this.1,by rw [World.ownsRow.cellAt h (j * 2+1) (by omega)];exact this.2⟩
theorem icells_one (B:List EI):∀u∈icells B,u.oneCell'=true:=by
 intro u hu;simp only [icells,List.mem_flatMap,List.mem_cons,List.not_mem_nil,or_false] at hu;obtain ⟨b,_,rfl|rfl⟩:=hu <;>rfl
theorem EIAt.src {w:World} {v:Value} {L:List EI} (h:EIAt w v L):SrcAt w v L.length (icells L):=by
 rcases h with ⟨h1,h2,h3⟩|⟨g,cap,hv,hn,hg,hc⟩
 ·exact Or.inl ⟨h1,h2,h3⟩
 ·refine Or.inr ⟨_,_,hv,fun j u hu=>?_⟩;have hadd:(⟨g,0,none⟩:Addr).add j=⟨g,j,none⟩:=by unfold Addr.add;split <;>simp_all
  rw [hadd];exact hc j u hu
def SrtE (L:List EI):Prop:=L.Pairwise fun a b=>a.1≤b.1
theorem insE_mem {e x:EI} {L:List EI}:x∈insE e L↔x=e∨x∈L:=by
 induction L with
 |nil=>simp [insE]
 |cons b B ih=>
  simp only [insE];split
  ·simp
  ·simp only [List.mem_cons,ih];constructor
   ·rintro (h|h|h)
    ·exact Or.inr (Or.inl h)
    ·exact Or.inl h
    ·exact Or.inr (Or.inr h)
   ·rintro (h|h|h)
    ·exact Or.inr (Or.inl h)
    ·exact Or.inl h
    ·exact Or.inr (Or.inr h)
theorem insE_len (e:EI) (L:List EI):(insE e L).length=L.length+1:=by
 induction L with
 |nil=>rfl
 |cons b B ih=>simp only [insE];split <;>simp [ih]
theorem insE_srt {e:EI} {L:List EI} (h:SrtE L):SrtE (insE e L):=by
 induction L with
 |nil=>exact List.pairwise_singleton _ _
 |cons b B ih=>
  obtain ⟨h1,h2⟩:=List.pairwise_cons.1 h;simp only [insE];split
  ·rename_i hl;refine List.pairwise_cons.2 ⟨fun x hx=>?_,h⟩;rcases List.mem_cons.1 hx with rfl|hx
   ·exact Int.le_of_lt hl
   ·have:=h1 x hx;omega
  ·refine List.pairwise_cons.2 ⟨fun x hx=>?_,ih h2⟩;rcases insE_mem.1 hx with rfl|hx
   ·omega
   ·exact h1 x hx
theorem insE_at {e:EI} {L:List EI} {i:Nat} (hi:i≤L.length) (h1:∀x∈L.take i,x.1≤e.1) (h2:∀x∈L.drop i,e.1<x.1):insE e L=L.take i++e::L.drop i:=by
 induction L generalizing i with
 |nil=>simp [insE]
 |cons b B ih=>
  cases i with
  |zero=>
   have:=h2 b (by simp);simp [insE,this]
  |succ i=>
   have:=h1 b (by simp);simp only [insE,List.take_succ_cons,List.drop_succ_cons,List.cons_append];rw [if_neg (by omega),ih (by simpa using hi) (fun x hx=>h1 x (by simp [hx])) (fun x hx=>h2 x (by simpa using hx))]
theorem sortTo_len (L:List EI) (n:Nat) (h:n≤L.length):(sortTo L n).length=n:=by
 induction n with
 |zero=>rfl
 |succ n ih=>rw [sortTo,List.getElem?_eq_getElem (by omega)];simp only;rw [insE_len,ih (by omega)]
theorem sortTo_srt (L:List EI) (n:Nat):SrtE (sortTo L n):=by
 induction n with
 |zero=>exact List.Pairwise.nil
 |succ n ih=>
  rw [sortTo];split
  ·exact insE_srt ih
  ·exact ih
def MidE (P:List EI) (R:List EI) (i:Nat) (X:List EI):Prop:=∃x,X=P.take i++x::(P.drop i++R)
theorem MidE.len {P R X:List EI} {i:Nat} (h:MidE P R i X) (hi:i≤P.length):X.length=P.length+1+R.length:=by
 obtain ⟨x,rfl⟩:=h;simp;omega
theorem MidE.before {P R X:List EI} {i j:Nat} (h:MidE P R i X) (hi:i≤P.length) (hj:j<i) (hx:j<X.length):X[j]=P[j]'(by omega):=by
 obtain ⟨x,rfl⟩:=h;rw [List.getElem_append_left (by simp;omega),List.getElem_take]
theorem MidE.step {P R X:List EI} {i:Nat} (h:MidE P R (i+1) X) (hi:i<P.length):MidE P R i (X.set (i+1) P[i]):=by
 obtain ⟨x,rfl⟩:=h;refine ⟨P[i],?_⟩;have hl:(P.take (i+1)).length=i+1:=by simp;omega
 rw [List.set_append_right _ _ (by omega),hl,Nat.sub_self,List.set_cons_zero,List.take_succ_eq_append_getElem hi,List.append_assoc,List.drop_eq_getElem_cons (i:=i) hi];rfl
theorem MidE.fin {P R X:List EI} {i:Nat} {e:EI} (h:MidE P R i X) (hi:i≤P.length):X.set i e=P.take i++e::P.drop i++R:=by
 obtain ⟨x,rfl⟩:=h;have hl:(P.take i).length=i:=by simp;omega
 rw [List.set_append_right _ _ (by omega),hl,Nat.sub_self,List.set_cons_zero];simp
theorem rising_is (L:List EI) (v:Value) (w:World) (hP:EIAt w v L) (hB:L.length≤65536):
  Calls Tryz.prog 185 #[v] w (REnts w (sortTo L L.length)):=by
 obtain ⟨i0,hi,hz0,hz1,hz2⟩:=info_parts Tryz.infoEI;go_enter Tryz.func185,Tryz.ntmps185;go_wp2_with (first|(at_builtin;refine wpList_append_src _ rfl _ _ 64 rfl w.heap.size 116 i0 (.agg #[.int .u64 0,.int .i64 0]) 2 16 Tryz.underlying64 hi hz0 hz1 hz2 rfl (by decide) _ 0 [] rfl ?o1 _ L.length (icells L) rfl ?o2 ?c1 ?c2 ?c3 ?c4 ?c5 ?_))
 case o1=>exact World.ownsRow_lit w #[] 0 (Nat.le_refl _) (by decide) rfl
 case o2=>exact (hP.later ((Bel.refl w).step_alloc _)).src
 case c1=>exact icells_len L
 case c2=>exact icells_one L
 case c3=>unfold maxLen;omega
 case c4=>omega
 case c5=>simp
 intro v2 w2 hown2 hgrow2;have hb2:Bel w w2:=((Bel.refl w).step_alloc _).grown hgrow2 (fun g hg=>by simp [Value.ownBlock] at hg;omega);have hown:OwnE w.heap.size w2 v2 L:=by unfold OwnE;simpa using hown2
 clear hown2 hgrow2;by_cases hL0:L.length=0
 ·have hLn:L=[]:=List.eq_nil_of_length_eq_zero hL0;subst hLn
  have hsl:∃ao cap,v2= .slice ao 0 cap:=by
   rcases hown.2 with ⟨h,_⟩|⟨g,cap,cur,h,_⟩
   ·exact ⟨_,_,h⟩
   ·exact ⟨_,_,h⟩
  obtain ⟨ao,cap,rfl⟩:=hsl;have HO:=Hid.mk hown;clear hown hP;go_wp2;refine wp_loop_rounds 1 ?_;rw [rounds_succ];go_wp2;go_ret;exact ⟨_,rfl,hb2,HO.out⟩
 ·obtain ⟨g,cap,hv2,hg1,hg2⟩:=World.ownsRow.form hown (by omega);subst hv2;obtain ⟨N,hN⟩:∃N,N=L.length:=⟨_,rfl⟩;have hsl:=fun n h=>sortTo_len L n h
  have hss:=fun n=>sortTo_srt L n
  have hst:∀n (h:n<L.length),sortTo L (n+1)=insE L[n] (sortTo L n):=fun n h=>by rw [sortTo,List.getElem?_eq_getElem h]
  have h0:sortTo L 0=[]:=rfl;have hOX:OwnX w.heap.size g cap w2 L:=hown;rw [←hN] at hL0 hB ⊢;rw [hN];generalize sortTo L=st at *;rw [←hN];have HN:=Hid.mk hN;have hsl:Hid (∀n,n≤N→(st n).length=n):=by rw [hN];exact hsl
  have hst:Hid (∀n (h:n<L.length),st (n+1)=insE L[n] (st n)):=hst;have hss:Hid (∀n,SrtE (st n)):=hss;clear hown hP hN;go_wp2;go_loopg [12] N (fun r n wr=>Bel w wr∧∃(k:Nat) (X:List EI),r=N - k∧k≤N∧n= .int .i64 k∧OwnX w.heap.size g cap wr X∧X=st k++L.drop k)
  case atStart=>exact ⟨hb2,0,L,by omega,by omega,rfl,hOX,by rw [h0];simp⟩
  case round=>
   obtain ⟨hb,k,X,hr,hk,rfl,hX,hXe⟩:=hrel;have hXl:X.length=N:=by rw [hXe,List.length_append,hsl.out k hk,List.length_drop];have:=HN.out;omega
   clear hb2 hOX;by_cases hlt:k<N
   ·have hXk:X[k]'(by omega)=L[k]'(by have:=HN.out;omega):=by
     have h1:(st k).length=k:=hsl.out k (by omega);simp only [hXe];rw [List.getElem_append_right (by omega)];simp [h1]
    obtain ⟨c0,c1⟩:=hX.get k (by omega)
    rw [hXk] at c0 c1
    have HSt:=Hid.mk (hst.out k (by have:=HN.out;omega))
    have hsrt:=Hid.mk (hss.out k)
    have HPl:=Hid.mk (hsl.out k (by omega))
    have hMid:Hid (MidE (st k) (L.drop (k+1)) k X):=by
     refine ⟨L[k]'(by have:=HN.out;omega),hXe.trans ?_⟩;have h1:(st k).length=k:=HPl.out;rw [List.take_of_length_le (by omega),List.drop_of_length_le (l:=st k) (by omega),List.nil_append,List.drop_eq_getElem_cons (by have:=HN.out;omega)]
    have HX:=Hid.mk hX
    have hXg:=(World.ownsRow.lt hX g rfl).2
    generalize hLk:L[k]'(by have:=HN.out;omega)=ek at *
    obtain ⟨pe,oe⟩:=ek
    simp only at c0 c1 HSt
    clear hX hXe hXk hst hss hLk hsl
    go_wp2
    obtain ⟨wb,hwb⟩:∃wb,wb=wr.alloc (.cells #[.int .u64 pe,.int .i64 oe] 116):=⟨_,rfl⟩
    have d0:wb.cell? ⟨wr.heap.size,0,none⟩=some (.int .u64 pe):=by rw [hwb];simp
    have d1:wb.cell? ⟨wr.heap.size,1,none⟩=some (.int .i64 oe):=by rw [hwb];simp
    have hbb:Bel w wb:=by rw [hwb];exact hb.step_alloc _
    have HXb:Hid (OwnX w.heap.size g cap wb X):=by rw [hwb];exact World.ownsRow.alloc HX.out _
    rw [←hwb]
    generalize wr.heap.size=pb at *
    clear hwb hb c0 c1 HX
    go_loopg [6] k (fun r vi wr=>∃(i:Nat) (X':List EI),r=i∧i≤k∧vi= .int .i64 i∧Bel w wr∧wr.cell? ⟨pb,0,none⟩=some (.int .u64 pe)∧wr.cell? ⟨pb,1,none⟩=some (.int .i64 oe)∧OwnX w.heap.size g cap wr X'∧X'.length=N∧MidE (st k) (L.drop (k+1)) i X'∧∀x∈(st k).drop i,pe<x.1)
    case atStart=>exact ⟨k,X,rfl,by omega,rfl,hbb,d0,d1,HXb.out,hXl,hMid.out,fun x hx=>by rw [List.drop_of_length_le (by have:=HPl.out;omega)] at hx;cases hx⟩
    case round=>
     obtain ⟨i,X',hri,hik,rfl,hbi,e0,e1,hX',hX'l,hMi,hGT⟩:=hrel
     have HMid:=Hid.mk hMi
     have HGT:=Hid.mk hGT
     have HX':=Hid.mk hX'
     have HX'l:=Hid.mk hX'l
     have hpl:=World.block_lt_of_cell? _ _ e0
     simp only at hpl
     clear hMi hGT hX' hX'l hMid HXb hbb d0 d1
     cases i with
     |zero=>
      have HLE:∀x∈(st k).take 0,x.1≤(pe,oe).1:=fun x hx=>by simp at hx
      clear hri
      have hfin:Hid (X'.set 0 (pe,oe)=st (k+1)++L.drop (k+1)):=by
       show List.set _ _ _=_;rw [HMid.out.fin (by have:=HPl.out;omega),HSt.out,insE_at (i:=0) (by have:=HPl.out;omega) HLE HGT.out]
      have k1:=World.ownsRow.frozenAt HX'.out (0 * 2)
      have k2:=World.ownsRow.frozenAt HX'.out (0 * 2+1)
      obtain ⟨j1,j2⟩:=HX'.out.get 0 (by rw [HX'l.out];omega)
      generalize X'[0]'(by rw [HX'l.out];omega)=xi at *
      obtain ⟨xi1,xi2⟩:=xi
      simp only at j1 j2
      have hd0:decide ((0:Int)>0)=false:=rfl
      have hgw:g<pb:=hXg
      go_wp2_with fail
      go_quiet (fail)
      have hbq:=(Bel.refl wr).step_drewN nq
      have H9:=Hid.mk (OwnX.set (own_later HX'.out hbq:OwnX w.heap.size g cap (wr.drewN nq) X') 0 pe oe)
      go_wp2
      go_roundg (N - (k+1))
      case measure=>omega
      case rel=>exact ⟨((hbi.step_drewN nq).step_set hg1 _).step_set hg1 _,k+1,_,rfl,by omega,by go_num,H9.out,hfin.out⟩
     |succ i=>
      obtain ⟨y0,y1⟩:=HX'.out.get i (by rw [HX'l.out];omega)
      have hiP:i<(st k).length:=by have:=HPl.out;omega
      rw [HMid.out.before (j:=i) (by omega) (by omega)] at y0 y1
      have hgw:g<pb:=hXg
      have hd0:decide (((i:Int)+1)>0)=true:=decide_eq_true (by omega)
      have hwi:IntKind.i64.wrap ((i:Int)+1 - 1)=(i:Int):=by rw [IntKind.wrap_i64];omega
      have hwj:(i:Int)+1 - 1=(i:Int):=by omega
      by_cases hgt:pe<(st k)[i].1
      ·have hdg:decide ((st k)[i].1>pe)=true:=decide_eq_true hgt
       have k1:=World.ownsRow.frozenAt HX'.out ((i+1) * 2)
       have k2:=World.ownsRow.frozenAt HX'.out ((i+1) * 2+1)
       obtain ⟨j1,j2⟩:=HX'.out.get (i+1) (by rw [HX'l.out];omega)
       have HMS:=Hid.mk (HMid.out.step hiP)
       have HG2:Hid (∀x∈(st k).drop i,pe<x.1):=by
        intro x hx;rw [List.drop_eq_getElem_cons hiP] at hx;rcases List.mem_cons.1 hx with rfl|hx
        ·exact hgt
        ·exact HGT.out x hx
       generalize X'[i+1]'(by rw [HX'l.out];omega)=xi at *
       obtain ⟨xi1,xi2⟩:=xi
       simp only at j1 j2
       generalize (st k)[i]=pi at *
       obtain ⟨pp,po⟩:=pi
       simp only at y0 y1 hgt hdg
       go_wp2_with fail
       go_quiet (fail)
       have hbq:=(Bel.refl wr).step_drewN nq
       have H9:=Hid.mk (OwnX.set (own_later HX'.out hbq:OwnX w.heap.size g cap (wr.drewN nq) X') (i+1) pp po)
       go_wp2
       go_roundg i
       case measure=>omega
       case rel=>exact ⟨i,X'.set (i+1) (pp,po),rfl,by omega,rfl,((hbi.step_drewN nq).step_set hg1 _).step_set hg1 _,by rw [set_other (Or.inl (by simp only;omega)),set_other (Or.inl (by simp only;omega))];exact hbq.cell e0,by rw [set_other (Or.inl (by simp only;omega)),set_other (Or.inl (by simp only;omega))];exact hbq.cell e1,H9.out,by rw [List.length_set];exact HX'l.out,HMS.out,HG2.out⟩
      ·have hdg:decide ((st k)[i].1>pe)=false:=decide_eq_false hgt
       have HLE:∀x∈(st k).take (i+1),x.1≤(pe,oe).1:=by
        intro x hx;obtain ⟨j,hj,rfl⟩:=List.getElem_of_mem hx;simp only [List.length_take] at hj;rw [List.getElem_take];by_cases hji:j=i
        ·subst hji;simp only;omega
        ·have:=List.pairwise_iff_getElem.1 hsrt.out j i (by omega) hiP (by omega);simp only;omega
       generalize hpi:(st k)[i]=pi at *
       obtain ⟨pp,po⟩:=pi
       simp only at y0 y1 hgt hdg
       have hfin:Hid (X'.set (i+1) (pe,oe)=st (k+1)++L.drop (k+1)):=by
        show List.set _ _ _=_;rw [HMid.out.fin (by have:=HPl.out;omega),HSt.out,insE_at (i:=i+1) (by have:=HPl.out;omega) HLE HGT.out]
       have k1:=World.ownsRow.frozenAt HX'.out ((i+1) * 2)
       have k2:=World.ownsRow.frozenAt HX'.out ((i+1) * 2+1)
       obtain ⟨j1,j2⟩:=HX'.out.get (i+1) (by rw [HX'l.out];omega)
       generalize X'[i+1]'(by rw [HX'l.out];omega)=xi at *
       obtain ⟨xi1,xi2⟩:=xi
       simp only at j1 j2
       go_wp2_with fail
       go_quiet (fail)
       have hbq:=(Bel.refl wr).step_drewN nq
       have H9:=Hid.mk (OwnX.set (own_later HX'.out hbq:OwnX w.heap.size g cap (wr.drewN nq) X') (i+1) pe oe)
       go_wp2
       go_roundg (N - (k+1))
       case measure=>omega
       case rel=>exact ⟨((hbi.step_drewN nq).step_set hg1 _).step_set hg1 _,k+1,_,rfl,by omega,by go_num,H9.out,hfin.out⟩
   ·obtain rfl:k=N:=by omega
    have hfin:Hid (X=st k):=by
     show X=st k;rw [hXe,List.drop_of_length_le (by have:=HN.out;omega),List.append_nil]
    have HX:=Hid.mk hX;clear hX hXe hst hss hsl;go_wp2;go_ret;exact ⟨_,rfl,hb,by rw [←HN.out,←hfin.out];have:=HX.out;unfold OwnX sl at this;rw [hXl] at this;unfold OwnE;rw [hXl];exact this⟩
end Go.Proofs.YtpapdkhjdelfcabGreat
namespace Go.Proofs.YtpapdkhjdelfcabGreat
open Go.RowKit
theorem ptsOf_len (key:ByteArray) (letter:UInt8) (each:Int) (i:Nat) (b:BK):(ptsOf key letter each i b).length=(each * b.2).toNat:=by simp [ptsOf]
theorem ptsTo_len (key:ByteArray) (letter:UInt8) (each:Int) (B:List BK) (h2:each≤3) (hall:∀b∈B,0≤b.2∧b.2≤6) (n:Nat):(ptsTo key letter each B n).length≤18 * n:=by
 induction n with
 |zero=>simp [ptsTo]
 |succ n ih=>
  rw [ptsTo];split
  ·rename_i b hb;rw [List.length_append,ptsOf_len];have hm:=List.mem_of_getElem? hb;obtain ⟨h3,h4⟩:=hall b hm;have:each * b.2≤3 * 6:=Int.mul_le_mul h2 h4 h3 (by omega);omega
  ·omega
theorem points_is (key:ByteArray) (letter:UInt8) (each:Int) (B:List BK) (v:Value) (w:World) (hP:PoolAt w v B) (hB:PoolOK B) (hk:key.size=16) (he1:0≤each) (he2:each≤3):
  Calls Tryz.prog 142 #[.string key,.int .u8 (letter.toNat:Int),.int .i64 each,v] w (REnts w (pointsF key letter each B)):=by
 obtain ⟨i0,hi,hz0,hz1,hz2⟩:=info_parts Tryz.infoEI;obtain ⟨h8,hall⟩:=hB;have hlen:=ptsTo_len key letter each B he2 (fun b hb=>(hall b hb).2.2);obtain ⟨ao,cap,rfl,hcell⟩:=hP.open;have hris:=fun v wx hx=>rising_is (ptsTo key letter each B B.length) v wx hx (by have:=hlen B.length;omega)
 obtain ⟨X,hX⟩:∃X,X=pointsF key letter each B:=⟨_,rfl⟩;rw [←hX];rw [pointsF] at hX;rw [←hX] at hris
 have hstep:∀i (h:i<B.length),ptsTo key letter each B (i+1)=ptsTo key letter each B i++ptsOf key letter each i B[i]:=fun i h=>by
  rw [ptsTo,List.getElem?_eq_getElem h]
 have h0:ptsTo key letter each B 0=[]:=rfl;clear hX;generalize ptsTo key letter each B=pt at *;go_enter Tryz.func142,Tryz.ntmps142;go_wp2;go_loopg [9,16] B.length (fun r vL n wr=>Bel w wr∧∃k:Nat,r=B.length - k∧k≤B.length∧n= .int .i64 k∧OwnE w.heap.size wr vL (pt k))
 case atStart=>exact ⟨Bel.refl _,0,by omega,by omega,rfl,by rw [h0];exact World.ownsRow_nil _ _ _ _⟩
 case round=>
  obtain ⟨hb,k,hr,hkB,rfl,hL⟩:=hrel;have HO:=Hid.mk hL;clear hL;by_cases hlt:k<B.length
  ·obtain ⟨g,rfl,c0,c1⟩:=hcell k hlt;have c0':=hb.cell c0;have c1':=hb.cell c1;have HS:=Hid.mk (hstep k hlt);obtain ⟨hid1,hid,hw1,hw2⟩:=hall _ (List.getElem_mem hlt);have hlk:=hlen k;clear hcell c0 c1 hstep hris hlen;generalize B[k]=bk at *;obtain ⟨idk,wk⟩:=bk;simp only at c0' c1' HS hid hw1 hw2 hid1;have hm1:0≤each * wk:=Int.mul_nonneg he1 hw1;have hm2:each * wk≤3 * 6:=Int.mul_le_mul he2 hw2 hw1 (by omega);obtain ⟨n,hn⟩:∃n:Nat,each * wk=(n:Int):=⟨(each * wk).toNat,by omega⟩;obtain ⟨pj,hpj⟩:∃pj:Nat→List EI,pj=fun j=>(List.range j).map fun i=>(hsh key letter [i] idk,(k:Int)):=⟨_,rfl⟩
   have hp0:pj 0=[]:=by rw [hpj];rfl
   have hpl:∀j,(pj j).length=j:=fun j=>by rw [hpj];simp
   have hps:∀j,pj (j+1)=pj j++[(hsh key letter [j] idk,(k:Int))]:=fun j=>by rw [hpj];simp only;rw [List.range_succ,List.map_append];rfl
   have HF:Hid (pt (k+1)=pt k++pj n):=by
    show _=_;rw [HS.out,hpj,ptsOf,hn];rfl
   clear HS hpj;generalize pt k=L0 at *;obtain ⟨wb,hwb⟩:∃wb,wb=wr.alloc (.cells #[.string idk,.int .i64 wk] 75):=⟨_,rfl⟩;have d0:wb.cell? ⟨wr.heap.size,0,none⟩=some (.string idk):=by rw [hwb];simp
   have d1:wb.cell? ⟨wr.heap.size,1,none⟩=some (.int .i64 wk):=by rw [hwb];simp
   have hbb:Bel w wb:=by rw [hwb];exact hb.step_alloc _
   have hrow:Hid (∀g,Value.ownBlock u9=some g→w.heap.size≤g∧g<wr.heap.size):=World.ownsRow.lt HO.out;have HOb:Hid (OwnE w.heap.size wb u9 L0):=by rw [hwb];exact World.ownsRow.alloc HO.out _
   have hwpb:w.heap.size≤wr.heap.size:=hb.size;go_wp2;rw [←hwb];generalize wr.heap.size=pb at *;clear hwb hb c0' c1' HO;go_loopg [9,12] n (fun r vL vk wr=>∃j:Nat,r=n - j∧j≤n∧vk= .int .i64 j∧Bel w wr∧wr.cell? ⟨pb,0,none⟩=some (.string idk)∧wr.cell? ⟨pb,1,none⟩=some (.int .i64 wk)∧OwnE w.heap.size wr vL (L0++pj j)∧vL.ownBlock≠some pb)
   case atStart=>exact ⟨0,by omega,by omega,rfl,hbb,d0,d1,by rw [hp0,List.append_nil];exact HOb.out,fun e=>by have:=hrow.out _ e;omega⟩
   case round=>
    obtain ⟨j,hrj,hjn,rfl,hbj,e0,e1,hOj,hne⟩:=hrel;have hplt:=World.block_lt_of_cell? _ _ e0;simp only at hplt;have HJ:=Hid.mk hOj;have hwj:=hbj.size;have HNE:=Hid.mk hne;clear hOj HOb hrow hbb d0 d1 hne;by_cases hjl:j<n
    ·have HP:=Hid.mk (hps j);have hpjl:=hpl j;have hH:=fun wx=>hash_is key letter [j] (.slice (some ⟨wx.heap.size,0,none⟩) 1 1) idk _ (ints_one wx j) (by simp) (by omega) (by omega)
     clear hps hp0 hpl;generalize hsh key letter [j] idk=x at *;generalize pj j=Lj at *;have hd:decide ((j:Int)<each * wk)=true:=decide_eq_true (by omega);have hLL:(L0++Lj).length≤300:=by rw [List.length_append];omega
     go_wp2_with fail;refine (hH _).mono ?_;rintro e w2 ⟨rfl,hb2⟩;have hb3:Bel wr w2:=(Bel.step_alloc (Bel.refl wr) _).trans hb2;have hbw:=hbj.trans hb3;have hO2:=Hid.mk (own_later HJ.out hb3);have f0:=hb3.cell e0;have f1:=hb3.cell e1;have hw2:=hbw.size;have hs2:=hb3.size;clear hb2 hH HJ;generalize hLL2:L0++Lj=LL at *;have HLL:=Hid.mk hLL2;clear hLL2;go_wp2_with (first|(at_builtin;refine wpList_append_lies _ rfl _ _ 64 rfl w.heap.size 116 i0 (.agg #[.int .u64 0,.int .i64 0]) 2 16 Tryz.underlying64 hi hz0 hz1 hz2 rfl (by decide) _ LL.length (icells LL) rfl ?p1 ⟨w2.heap.size,0,none⟩ 1 1 [.int .u64 x,.int .i64 (k:Int)] rfl rfl ?d1 ?d2 (by decide) ?d3 ?d4 ?d5 _ rfl ?_))
     case p1=>exact World.ownsRow.alloc hO2.out _
     try (case d1=>exact two_new _ _ _ _ _ (by simp))
     case d2=>first|exact ⟨rfl,rfl⟩|exact two_one rfl rfl
     case d3=>unfold maxLen;omega
     case d4=>omega
     case d5=>first|omega|(simp;omega)
     intro g3 cap3 w3 hown3 hgrow3 hat3 hlt3;have hb4:Bel w w3:=(hbw.step_alloc _).grown hgrow3 (fun g hg=>(World.ownsRow.lt hO2.out g hg).1);have q0:w3.cell? ⟨pb,0,none⟩=some (.string idk):=cell_grown hgrow3 ((Bel.step_alloc (Bel.refl w2) _).cell f0) HNE.out;have q1:w3.cell? ⟨pb,1,none⟩=some (.int .i64 wk):=cell_grown hgrow3 ((Bel.step_alloc (Bel.refl w2) _).cell f1) HNE.out;have H3:=Hid.mk (OwnE.snoc (b:=(x,(k:Int))) hown3 rfl)
     have hn3:Hid (Value.ownBlock (.slice (some ⟨g3,0,none⟩) (LL.length+1) cap3)≠some pb):=by
      intro e;have e2:g3=pb:=by simpa [Value.ownBlock] using e
      rcases hat3 with h|h
      ·exact HNE.out (by rw [h,e2])
      ·first|omega|(simp at h;omega)
     clear hown3 hgrow3 hat3 hO2;go_wp2;go_roundg (n - (j+1))
     case measure=>omega
     case rel=>exact ⟨j+1,rfl,by omega,by go_num,hb4,q0,q1,by rw [HP.out,←List.append_assoc,HLL.out];exact H3.out,hn3.out⟩
    ·obtain rfl:j=n:=by omega
     have hd:decide ((j:Int)<each * wk)=false:=decide_eq_false (by omega);clear hps hp0 hpl;go_wp2;go_roundg (B.length - (k+1))
     case measure=>omega
     case rel=>exact ⟨hbj,k+1,rfl,by omega,by go_num,by rw [HF.out];exact HJ.out⟩
  ·obtain rfl:k=B.length:=by omega
   clear hcell hstep;go_wp2_with fail;refine (hris _ _ HO.out.ents).mono ?_;rintro e w2 ⟨v2,rfl,hb2,hO2⟩;go_wp2;go_ret;exact ⟨_,rfl,hb.trans hb2,World.ownsRow.mono hO2 hb.size⟩
end Go.Proofs.YtpapdkhjdelfcabGreat
namespace Go.Proofs.YtpapdkhjdelfcabGreat
open Go.RowKit
def TabAt (w:World) (q:Nat) (c:Cfg) (vP vE:Value):Prop:=
 (w.cell? ⟨q,0,none⟩=some (.int .i64 c.alg)∧w.cell? ⟨q,1,none⟩=some (.int .i64 c.slots)∧w.cell? ⟨q,2,none⟩=some (.int .i64 c.points)∧w.cell? ⟨q,3,none⟩=some (.int .i64 c.probes)∧w.cell? ⟨q,4,none⟩=some (.string c.key)∧w.cell? ⟨q,5,none⟩=some (.int .i64 c.formats))∧
 w.cell? ⟨q,6,none⟩=some vP∧w.cell? ⟨q,7,none⟩=some vE
theorem TabAt.later {a w:World} {q:Nat} {c:Cfg} {vP vE:Value} (h:TabAt a q c vP vE) (k:Bel a w):TabAt w q c vP vE:=by
 obtain ⟨⟨h0,h1,h2,h3,h4,h5⟩,h6,h7⟩:=h;exact ⟨⟨k.cell h0,k.cell h1,k.cell h2,k.cell h3,k.cell h4,k.cell h5⟩,k.cell h6,k.cell h7⟩
def RText (w:World) (s:ByteArray) (e:Ending) (w':World):Prop:=e= .returned (.string s)∧Bel w w'
theorem ret_str {a b:ByteArray} (h:a=b):Ending.returned (.string a)= .returned (.string b):=by rw [h]
theorem name_is (q:Nat) (c:Cfg) (vP vE:Value) (B:List BK) (x:Int) (w:World) (hT:TabAt w q c vP vE) (hP:PoolAt w vP B):
  Calls Tryz.prog 84 #[.pointer (some ⟨q,0,none⟩),.int .i64 x] w (RText w (nameF B x)):=by
 obtain ⟨-,h6, -⟩:=hT;obtain ⟨ao,cap,rfl,hc⟩:=hP.open;obtain ⟨X,hX⟩:∃X,X=nameF B x:=⟨_,rfl⟩;rw [←hX];by_cases hneg:x<0
 ·have HX:Hid (X=ByteArray.empty):=by show X=_;rw [hX,nameF,if_pos hneg]
  have hd:decide (x<0)=true:=decide_eq_true hneg;clear hc hX;go_enter Tryz.func84,Tryz.ntmps84;go_wp2_with fail
  first
  |(go_ret;exact ⟨ret_str HX.out.symm,by (repeat (first|exact Bel.refl _|assumption|refine Bel.step_alloc ?_ _|refine Bel.step_drew ?_|refine Bel.step_drewN ?_ _|refine Bel.step_set ?_ (by simp <;>omega) _|refine Bel.trans ?_ (by assumption)))⟩)
  |(go_quiet (fail);go_wp2;go_ret;exact ⟨ret_str HX.out.symm,by (repeat (first|exact Bel.refl _|assumption|refine Bel.step_alloc ?_ _|refine Bel.step_drew ?_|refine Bel.step_drewN ?_ _|refine Bel.step_set ?_ (by simp <;>omega) _|refine Bel.trans ?_ (by assumption)))⟩)
 ·obtain ⟨k,rfl⟩:∃k:Nat,x=(k:Int):=⟨x.toNat,by omega⟩;have hd:decide ((k:Int)<0)=false:=decide_eq_false hneg;by_cases hlt:k<B.length
  ·obtain ⟨g,rfl,c0,c1⟩:=hc k hlt;have HX:Hid (X=B[k].1):=by show X=_;rw [hX,nameF,if_neg hneg,Int.toNat_natCast,List.getElem?_eq_getElem hlt];rfl
   have hg:decide ((k:Int)≥(B.length:Int))=false:=decide_eq_false (by omega);clear hc hX;generalize B[k].1=idk at *;go_enter Tryz.func84,Tryz.ntmps84;go_wp2_with fail
   first
   |(go_ret;exact ⟨ret_str HX.out.symm,by (repeat (first|exact Bel.refl _|assumption|refine Bel.step_alloc ?_ _|refine Bel.step_drew ?_|refine Bel.step_drewN ?_ _|refine Bel.step_set ?_ (by simp <;>omega) _|refine Bel.trans ?_ (by assumption)))⟩)
   |(go_quiet (fail);go_wp2;go_ret;exact ⟨ret_str HX.out.symm,by (repeat (first|exact Bel.refl _|assumption|refine Bel.step_alloc ?_ _|refine Bel.step_drew ?_|refine Bel.step_drewN ?_ _|refine Bel.step_set ?_ (by simp <;>omega) _|refine Bel.trans ?_ (by assumption)))⟩)
  ·have HX:Hid (X=ByteArray.empty):=by show X=_;rw [hX,nameF,if_neg hneg,Int.toNat_natCast,List.getElem?_eq_none (by omega)];rfl
   have hg:decide ((k:Int)≥(B.length:Int))=true:=decide_eq_true (by omega);clear hc hX;go_enter Tryz.func84,Tryz.ntmps84;go_wp2_with fail
   first
   |(go_ret;exact ⟨ret_str HX.out.symm,by (repeat (first|exact Bel.refl _|assumption|refine Bel.step_alloc ?_ _|refine Bel.step_drew ?_|refine Bel.step_drewN ?_ _|refine Bel.step_set ?_ (by simp <;>omega) _|refine Bel.trans ?_ (by assumption)))⟩)
   |(go_quiet (fail);go_wp2;go_ret;exact ⟨ret_str HX.out.symm,by (repeat (first|exact Bel.refl _|assumption|refine Bel.step_alloc ?_ _|refine Bel.step_drew ?_|refine Bel.step_drewN ?_ _|refine Bel.step_set ?_ (by simp <;>omega) _|refine Bel.trans ?_ (by assumption)))⟩)
theorem nextF_lt (E:List EI) (h:Int) (hE:0<E.length):nextF E h<E.length:=by
 unfold nextF;split
 ·assumption
 ·exact hE
theorem probed_is (c:Cfg) (E:List EI) (v:Value) (k:ByteArray) (w:World) (hP:EIAt w v E) (hB:E.length≤65536) (hc:c.OK) (hk:k.size≤4611686018427386000) (hE:0<E.length):
  Calls Tryz.prog 217 #[.agg c.cells,v,.string k] w (RNat w (probeTo c E k c.probes.toNat).1):=by
 obtain ⟨hp1,hp2,hk16⟩:1≤c.probes∧c.probes≤5∧c.key.size=16:=⟨hc.2.2.2.2.2.2.2.1,hc.2.2.2.2.2.2.2.2.1,hc.2.2.2.2.2.2.2.2.2.1⟩;have hnx:=fun h wx hx=>next_is E v h wx hx hB
 have hnl:=fun h=>nextF_lt E h hE
 obtain ⟨n,hn⟩:∃n:Nat,c.probes=(n:Int):=⟨c.probes.toNat,by omega⟩;rw [hn,Int.toNat_natCast];obtain ⟨pf,hpf⟩:∃pf,pf=probeTo c E k:=⟨_,rfl⟩;have h0:pf 0=(0,0):=by rw [hpf];rfl
 have hs:∀j,pf (j+1)=if j=0∨((E.getD (nextF E (hsh c.key 112 [j] k)) (0,0)).1 - hsh c.key 112 [j] k) % 18446744073709551616<(pf j).2 then (nextF E (hsh c.key 112 [j] k),((E.getD (nextF E (hsh c.key 112 [j] k)) (0,0)).1 - hsh c.key 112 [j] k) % 18446744073709551616) else pf j:=fun j=>by rw [hpf];rfl
 rw [←hpf];clear hpf;obtain ⟨alg,slots,points,probes,key,formats⟩:=c;simp only [Cfg.cells] at *;subst hn;obtain ⟨ao,cap,rfl,hcell⟩:=hP.open;clear hc;go_enter Tryz.func217,Tryz.ntmps217;go_wp2;obtain ⟨wm,hwm⟩:∃wm,wm=w.alloc (.cells #[.int .i64 alg,.int .i64 slots,.int .i64 points,.int .i64 (n:Int),.string key,.int .i64 formats] 34):=⟨_,rfl⟩;have m3:wm.cell? ⟨w.heap.size,3,none⟩=some (.int .i64 (n:Int)):=by rw [hwm];simp
 have m4:wm.cell? ⟨w.heap.size,4,none⟩=some (.string key):=by rw [hwm];simp
 have hwb:Bel w wm:=by rw [hwm];exact (Bel.refl w).step_alloc _
 rw [←hwm];clear hwm;go_loopg [7,8,9] n (fun r vb vl vi wr=>Bel wm wr∧∃j:Nat,r=n - j∧j≤n∧vi= .int .i64 j∧vb= .int .i64 ((pf j).1:Int)∧vl= .int .u64 (pf j).2)
 case atStart=>exact ⟨Bel.refl _,0,by omega,by omega,rfl,by rw [h0];rfl,by rw [h0]⟩
 case round=>
  obtain ⟨hb,j,hr,hjn,rfl,rfl,rfl⟩:=hrel;have n3:=hb.cell m3;have n4:=hb.cell m4;by_cases hjl:j<n
  ·have HS:=Hid.mk (hs j);have hH:=fun wx=>hash_is key 112 [j] (.slice (some ⟨wx.heap.size,0,none⟩) 1 1) k _ (ints_one wx j) (by simp) (by omega) hk
   clear hs h0;generalize hsh key 112 [j] k=x at *;have hnx:=hnx x;have hnl:=hnl x;generalize nextF E x=p at *;obtain ⟨g,rfl,c0,c1⟩:=hcell p hnl;have HG:Hid (E.getD p (0,0)=E[p]):=by show E.getD p (0,0)=E[p];rw [List.getD_eq_getElem?_getD,List.getElem?_eq_getElem hnl];rfl
   rw [HG.out] at HS;clear HG hcell;generalize pf j=mj at *;obtain ⟨mb,mm⟩:=mj;simp only at HS;have hge:decide ((p:Int)≥(E.length:Int))=false:=decide_eq_false (by omega);have hd:decide ((j:Int)<(n:Int))=true:=decide_eq_true (by omega);go_wp2_with fail;refine (hH _).mono ?_;rintro e w2 ⟨rfl,hb2⟩;have hb3:Bel wm w2:=(hb.step_alloc _).trans hb2;have hbw:=hwb.trans hb3;have hE2:=EIAt.later hP hbw;have e0:=hbw.cell c0;clear hb2 hH;go_wp2_with fail;refine (hnx _ hE2).mono ?_;rintro e w3 ⟨rfl,hb4⟩;have hb5:=hb3.trans hb4;have f0:=hb4.cell e0;clear hE2 hb4 e0 c0 c1;generalize E[p].1=ep at *;generalize hdd:(ep - x) % 18446744073709551616=dd at *;have hwd:IntKind.u64.wrap (ep - x)=dd:=by rw [IntKind.wrap_u64];exact hdd
   clear hdd;by_cases hj0:j=0
   ·subst hj0;rw [if_pos (Or.inl rfl)] at HS;go_wp2;go_roundg (n - 1)
    case measure=>omega
    case rel=>exact ⟨hb5,1,rfl,by omega,by go_num,by rw [HS.out],by rw [HS.out]⟩
   ·have hj0b:((j:Int)==0)=false:=by rw [beq_eq_false_iff_ne];omega
    by_cases hg:dd<mm
    ·rw [if_pos (Or.inr hg)] at HS;have hgt:decide (dd<mm)=true:=decide_eq_true hg;go_wp2;go_roundg (n - (j+1))
     case measure=>omega
     case rel=>exact ⟨hb5,j+1,rfl,by omega,by go_num,by rw [HS.out],by rw [HS.out]⟩
    ·rw [if_neg (fun h=>h.elim hj0 hg)] at HS;have hgt:decide (dd<mm)=false:=decide_eq_false hg;go_wp2;go_roundg (n - (j+1))
     case measure=>omega
     case rel=>exact ⟨hb5,j+1,rfl,by omega,by go_num,by rw [HS.out],by rw [HS.out]⟩
  ·obtain rfl:j=n:=by omega
   clear hs h0 hcell;go_wp2;go_ret;exact ⟨rfl,hwb.trans hb⟩
end Go.Proofs.YtpapdkhjdelfcabGreat
