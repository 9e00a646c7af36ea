import Derived.Test.YtpapdkhjdelfcabGreatLBQ
namespace Go.Proofs.YtpapdkhjdelfcabGreat
open Go.RowKit
set_option maxRecDepth 100000
set_option maxHeartbeats 4000000
def Cf (B:List BK) (kind:Int) (S:ByteArray) (wt:Int) (k:Nat) (there:Bool):List BK×Int:=
 if kind=4∧(S.size=0∨8<S.size) then (B,2)
 else if kind≠5∧(wt<0∨6<wt) then (B,5)
 else if kind=4∧there=true then (B,3)
 else if kind=4∧B.length=8 then (B,6)
 else if kind≠4∧there=false then (B,4)
 else (B.take k++(if kind≠5 then [(S,wt)] else [])++B.drop (if kind≠4 then k+1 else k),0)
def Fk (w:World) (B:List BK) (kind:Int) (S:ByteArray) (wt:Int) (e:Ending) (w':World):Prop:=∃(v:Value) (k:Nat) (there:Bool) (err:Int),e= .returned (.tuple #[v,.int .i64 err])∧Aa w w'∧Ez B S k there∧Am w' v (Cf B kind S wt k there).1∧err=(Cf B kind S wt k there).2∧(err=0→∀g,v.ownBlock=some g→w.heap.size≤g)
theorem Fk.same {w w':World} {B:List BK} {kind:Int} {S:ByteArray} {wt:Int} {v:Value} {k:Nat} {there:Bool} {err:Int} (hb:Aa w w') (hF:Ez B S k there) (hP:Am w' v B) (hc:Cf B kind S wt k there=(B,err)) (h0:err≠0:=by decide):Fk w B kind S wt (.returned (.tuple #[v,.int .i64 err])) w':=⟨v,k,there,err,rfl,hb,hF,by rw [hc];exact hP,by rw [hc],fun e=>absurd e h0⟩
theorem Yk (B:List BK) (vB:Value) (kind A wt C:Int) (S:ByteArray) (w:World) (hP:Am w vB B) (hB:B.length≤8) (hkind:kind=4∨kind=5∨kind=6) (hS:S.size≤maxLen):
  Calls Tryz.prog 97 #[vB,.agg #[.int .i64 kind,.int .i64 A,.int .i64 wt,.int .i64 C,.string S]] w (Fk w B kind S wt):=by
 obtain ⟨i0,hi,hz0,hz1,hz2⟩:=info_parts Tryz.infoBKS;unfold maxLen at hS
 obtain ⟨aoB,capB,hvB,hcapB⟩:∃ao cap,vB= .slice ao B.length cap∧B.length≤cap:=by
  rcases hP.form with ⟨rfl,rfl⟩|⟨g,cap,rfl,hc,_⟩
  ·exact ⟨_,_,rfl,by simp⟩
  ·exact ⟨_,_,rfl,hc⟩
 subst hvB;go_enter Tryz.func97,Tryz.ntmps97;go_wp2_with fail;refine (XI B _ S _ (hP.later (by solve_by_elim [jA,jB,jC,jD,jE])) hB).mono ?_;rintro e w1 ⟨k,there,rfl,hb1,hF⟩;have hkB:k≤B.length:=hF.1;have HF:Hid (Ez B S k there):=hF;clear hF;have hbw:Aa w w1:=by (repeat (first|exact jD _|assumption|refine jA ?_|refine jB ?_|refine jC ?_|refine Aa.step_set ?_ (by simp <;>omega) _|refine jE ?_ (by assumption)))
 have hx0:w1.cell? ⟨w.heap.size,0,none⟩=some (.int .i64 kind):=hb1.cell (by simp);have hx2:w1.cell? ⟨w.heap.size,2,none⟩=some (.int .i64 wt):=hb1.cell (by simp);have hx4:w1.cell? ⟨w.heap.size,4,none⟩=some (.string S):=hb1.cell (by simp);have hbx:w.heap.size<w1.heap.size:=jF hx0;clear hb1;generalize w.heap.size=px at *;go_upto_region 2 with fail
 go_cut [8] (fun v8 wc=>w1=wc∧∃bad:Bool,v8= .bool bad∧(bad=true↔(wt<0∨6<wt)))
 case first=>
  by_cases h1:wt<0
  ·go_wp2_with fail;go_meet
   case rel=>exact ⟨rfl,_,rfl,⟨fun _=>Or.inl h1,fun _=>rfl⟩⟩
  ·by_cases h2:6<wt
   ·go_wp2_with fail;go_meet
    case rel=>exact ⟨rfl,_,rfl,⟨fun _=>Or.inr h2,fun _=>rfl⟩⟩
   ·go_wp2_with fail;go_meet
    case rel=>exact ⟨rfl,_,rfl,⟨fun h=>(by cases h),fun h=>by exfalso;omega⟩⟩
 case rest=>
  obtain ⟨rfl,bad,rfl,hbad⟩:=hcut;have HBad:Hid (bad=true↔(wt<0∨6<wt)):=hbad;clear hbad;have hP1:=hP.later hbw;have hsl:=fun wx=>TV wx aoB B.length capB k (by omega)
  have hsf:=fun wx=>LW wx aoB B.length capB k hkB
  go_wp2_with (first|(at_builtin;refine Fn _ rfl _ _ 58 rfl w1.heap.size 75 i0 (.agg #[.string ByteArray.empty,.int .i64 0]) 2 24 Tryz.underlying58 hi hz0 hz1 hz2 rfl (by decide) _ 0 [] rfl ?o1 _ k (AC (B.take k)) rfl ?o2 ?c1 ?c2 ?c3 ?c4 ?c5 ?_))
  case o1=>exact World.ownsRow_nil _ _ _ _
  case o2=>exact RX hP1 hkB
  case c1=>rw [Jn];simp;omega
  case c2=>exact JR _
  case c3=>unfold maxLen;omega
  case c4=>omega
  case c5=>exact jH _
  intro v2 w2 hown2 hgrow2;have hb2:Aa w1 w2:=(jD _).grown hgrow2 (fun g hg=>by cases hg);have hy0:=hb2.cell hx0;have hy2:=hb2.cell hx2;have hy4:=hb2.cell hx4;have hbw2:=hbw.trans hb2;have hP2:=hP.later hbw2;clear hgrow2 hsl;have hown2':w2.ownsRow w1.heap.size 75 2 v2 k (AC (B.take k)):=by simpa using hown2
  clear hown2;rcases hkind with rfl|rfl|rfl
  ·cases hse:S.toList.isEmpty
   rotate_left
   ·have hs0:S.size=0:=by
     rw [ByteArray.toList_eq] at hse;have:S.data.toList=[]:=by simpa using hse
     simpa using congrArg List.length this
    go_wp2
    go_ret2
    exact Fk.same hbw2 HF.out hP2 (by simp [Cf,hs0])
   have hs1:¬S.size=0:=fun h=>by
    rw [ByteArray.toList_eq] at hse;have hl:S.data.toList.length=0:=by simpa using h
    rw [jS hl] at hse;cases hse
   by_cases hs8:8<S.size
   ·go_wp2;go_ret2;exact Fk.same hbw2 HF.out hP2 (by simp [Cf,hs8])
   cases bad
   rotate_left
   ·have hbd:=HBad.out.1 rfl;go_wp2;go_ret2;exact Fk.same hbw2 HF.out hP2 (by simp [Cf,hs8,hs1,hbd])
   have hbd:¬(wt<0∨6<wt):=fun h=>by cases HBad.out.2 h
   cases there
   rotate_left
   ·have HB:Hid (¬(wt<0∨6<wt)):=hbd;clear hbd;go_wp2;go_ret2;exact Fk.same hbw2 HF.out hP2 (by simp [Cf,hs8,hs1,HB.out])
   cases hl8:((B.length:Int)==8)
   rotate_left
   ·have hl:B.length=8:=by have:=beq_iff_eq.1 hl8;omega
    have HB:Hid (¬(wt<0∨6<wt)):=hbd;clear hbd;go_wp2;go_ret2;exact Fk.same hbw2 HF.out hP2 (by simp [Cf,hs8,hs1,HB.out,hl])
   have hl:¬B.length=8:=fun h=>by rw [h] at hl8;cases hl8
   have HB:Hid (¬(wt<0∨6<wt)):=hbd;clear hbd;go_wp2_with (first|(at_builtin;refine wpList_append_own _ rfl _ _ 58 rfl w1.heap.size 75 i0 (.agg #[.string ByteArray.empty,.int .i64 0]) 2 24 Tryz.underlying58 hi hz0 hz1 hz2 rfl (by decide) _ k (AC (B.take k)) rfl ?p1 ⟨w2.heap.size,0,none⟩ 1 1 [.string S,.int .i64 wt] rfl rfl ?d1 ?d2 ?d3 ?d4 ?d5 ?_))
   case p1=>exact hown2'.alloc _
   case d1=>exact I0 _ _ _ _ _ rfl
   case d2=>intro u hu;simp at hu;rcases hu with rfl|rfl <;>rfl
   case d3=>unfold maxLen;omega
   case d4=>omega
   case d5=>have:=hb2.size;simp;omega
   intro v3 w3 hown3 hgrow3 _;have hb3:Aa w1 w3:=(hb2.step_alloc _).grown hgrow3 (fun g hg=>(hown2'.lt g hg).1);have hz0':=hb3.cell hx0;clear hgrow3;have hP3:=hP.later (hbw.trans hb3);go_wp2_with (first|(at_builtin;refine Fn _ rfl _ _ 58 rfl w1.heap.size 75 i0 (.agg #[.string ByteArray.empty,.int .i64 0]) 2 24 Tryz.underlying58 hi hz0 hz1 hz2 rfl (by decide) _ (k+1) (AC (B.take k)++[.string S,.int .i64 wt]) rfl ?q1 _ (B.length - (k)) (AC (B.drop (k))) rfl ?q2 ?e1 ?e2 ?e3 ?e4 ?e5 ?_))
   case q1=>exact hown3
   case q2=>exact Ld hP3 hkB
   case e1=>rw [Jn];simp
   case e2=>exact JR _
   case e3=>unfold maxLen;omega
   case e4=>omega
   case e5=>exact hb3.size
   intro v4 w4 hown4 hgrow4;have hb4:Aa w1 w4:=hb3.grown hgrow4 (fun g hg=>(hown3.lt g hg).1);clear hgrow4;go_wp2;go_ret2;have hch:Cf B 4 S wt k false=(B.take k++[(S,wt)]++B.drop (k),0):=by simp [Cf,hs8,hs1,HB.out,hl]
   refine ⟨v4,k,false,0,rfl,hbw.trans hb4,HF.out,?_,by rw [hch],fun _ g hg=>jX hbw.size (hown4.lt g hg).1⟩;rw [hch];have hr:=Ap.of_owns hown4;have hlen:(B.take k++[(S,wt)]++B.drop (k)).length=k+1+(B.length - (k)):=by simp;omega
   have hcel:AC (B.take k++[(S,wt)]++B.drop (k))=(AC (B.take k)++[.string S,.int .i64 wt])++AC (B.drop (k)):=by simp [AC]
   show Ap _ _ _ _;rw [hlen,hcel];simpa using hr
  ·cases there
   ·go_wp2;go_ret2;exact Fk.same hbw2 HF.out hP2 (by simp [Cf])
   ·have hk1:k+1≤B.length:=by obtain ⟨h,_⟩:=HF.out.2.2.2.1 rfl;omega
    have hb3:=hb2;have hP3:=hP.later (hbw.trans hb2);have hsf2:∀wx,(Instr.slice 58 (.slice aoB B.length capB) (some (.int .i64 ((k:Int)+1))) none none).run Tryz.prog wx= .ok (GI aoB B.length capB (k+1)) wx:=fun wx=>by have:=LW wx aoB B.length capB (k+1) hk1;simpa using this
    clear hsf;go_wp2_with (first|(at_builtin;refine Fn _ rfl _ _ 58 rfl w1.heap.size 75 i0 (.agg #[.string ByteArray.empty,.int .i64 0]) 2 24 Tryz.underlying58 hi hz0 hz1 hz2 rfl (by decide) _ (k) (AC (B.take k)) rfl ?q1 _ (B.length - (k+1)) (AC (B.drop (k+1))) rfl ?q2 ?e1 ?e2 ?e3 ?e4 ?e5 ?_))
    case q1=>exact hown2'
    case q2=>exact Ld hP3 hk1
    case e1=>rw [Jn];simp
    case e2=>exact JR _
    case e3=>unfold maxLen;omega
    case e4=>omega
    case e5=>exact hb2.size
    intro v4 w4 hown4 hgrow4;have hb4:Aa w1 w4:=hb2.grown hgrow4 (fun g hg=>(hown2'.lt g hg).1);clear hgrow4;go_wp2;go_ret2;have hch:Cf B 5 S wt k true=(B.take k++[]++B.drop (k+1),0):=by simp [Cf]
    refine ⟨v4,k,true,0,rfl,hbw.trans hb4,HF.out,?_,by rw [hch],fun _ g hg=>jX hbw.size (hown4.lt g hg).1⟩;rw [hch];have hr:=Ap.of_owns hown4;have hlen:(B.take k++([]:List BK)++B.drop (k+1)).length=k+(B.length - (k+1)):=by simp;omega
    have hcel:AC (B.take k++([]:List BK)++B.drop (k+1))=(AC (B.take k))++AC (B.drop (k+1)):=by simp [AC]
    show Ap _ _ _ _;rw [hlen,hcel];exact hr
  ·cases bad
   rotate_left
   ·have hbd:=HBad.out.1 rfl;go_wp2;go_ret2;exact Fk.same hbw2 HF.out hP2 (by simp [Cf,hbd])
   have HB:Hid (¬(wt<0∨6<wt)):=fun h=>by cases HBad.out.2 h
   cases there
   ·go_wp2;go_ret2;exact Fk.same hbw2 HF.out hP2 (by simp [Cf,HB.out])
   ·have hk1:k+1≤B.length:=by obtain ⟨h,_⟩:=HF.out.2.2.2.1 rfl;omega
    go_wp2_with (first|(at_builtin;refine wpList_append_own _ rfl _ _ 58 rfl w1.heap.size 75 i0 (.agg #[.string ByteArray.empty,.int .i64 0]) 2 24 Tryz.underlying58 hi hz0 hz1 hz2 rfl (by decide) _ k (AC (B.take k)) rfl ?p1 ⟨w2.heap.size,0,none⟩ 1 1 [.string S,.int .i64 wt] rfl rfl ?d1 ?d2 ?d3 ?d4 ?d5 ?_))
    case p1=>exact hown2'.alloc _
    case d1=>exact I0 _ _ _ _ _ rfl
    case d2=>intro u hu;simp at hu;rcases hu with rfl|rfl <;>rfl
    case d3=>unfold maxLen;omega
    case d4=>omega
    case d5=>have:=hb2.size;simp;omega
    intro v3 w3 hown3 hgrow3 _;have hb3:Aa w1 w3:=(hb2.step_alloc _).grown hgrow3 (fun g hg=>(hown2'.lt g hg).1);have hz0':=hb3.cell hx0;clear hgrow3;have hP3:=hP.later (hbw.trans hb3);have hsf2:∀wx,(Instr.slice 58 (.slice aoB B.length capB) (some (.int .i64 ((k:Int)+1))) none none).run Tryz.prog wx= .ok (GI aoB B.length capB (k+1)) wx:=fun wx=>by have:=LW wx aoB B.length capB (k+1) hk1;simpa using this
    clear hsf;go_wp2_with (first|(at_builtin;refine Fn _ rfl _ _ 58 rfl w1.heap.size 75 i0 (.agg #[.string ByteArray.empty,.int .i64 0]) 2 24 Tryz.underlying58 hi hz0 hz1 hz2 rfl (by decide) _ (k+1) (AC (B.take k)++[.string S,.int .i64 wt]) rfl ?q1 _ (B.length - (k+1)) (AC (B.drop (k+1))) rfl ?q2 ?e1 ?e2 ?e3 ?e4 ?e5 ?_))
    case q1=>exact hown3
    case q2=>exact Ld hP3 hk1
    case e1=>rw [Jn];simp
    case e2=>exact JR _
    case e3=>unfold maxLen;omega
    case e4=>omega
    case e5=>exact hb3.size
    intro v4 w4 hown4 hgrow4;have hb4:Aa w1 w4:=hb3.grown hgrow4 (fun g hg=>(hown3.lt g hg).1);clear hgrow4;go_wp2;go_ret2;have hch:Cf B 6 S wt k true=(B.take k++[(S,wt)]++B.drop (k+1),0):=by simp [Cf,HB.out]
    refine ⟨v4,k,true,0,rfl,hbw.trans hb4,HF.out,?_,by rw [hch],fun _ g hg=>jX hbw.size (hown4.lt g hg).1⟩;rw [hch];have hr:=Ap.of_owns hown4;have hlen:(B.take k++[(S,wt)]++B.drop (k+1)).length=k+1+(B.length - (k+1)):=by simp;omega
    have hcel:AC (B.take k++[(S,wt)]++B.drop (k+1))=(AC (B.take k)++[.string S,.int .i64 wt])++AC (B.drop (k+1)):=by simp [AC]
    show Ap _ _ _ _;rw [hlen,hcel];rw [show k+1+(B.length - (k+1))=B.length by omega];simpa using hr
theorem LZ {B:List BK} {S:ByteArray} {k:Nat} (hs:Ep B) (h:Ez B S k false):¬Bq S B<B.length:=by
 intro hlt;have he:=Ho hlt;obtain ⟨h1,h2,h3,h4⟩:=h;have hne:¬∃h:k<B.length,B[k].1=S:=fun e=>by cases h4.2 e
 rcases Nat.lt_trichotomy (Bq S B) k with hk|hk|hk
 ·have:=h2 _ hlt hk;rw [he,Ln] at this;cases this
 ·subst hk;exact hne ⟨hlt,he⟩
 ·have hkl:k<B.length:=by omega
  have h5:=h3 hkl;have h6:=(List.pairwise_iff_getElem.1 hs) k (Bq S B) hkl hlt hk;rw [he] at h6;rw [h6] at h5;cases h5
theorem MB {B:List BK} {S:ByteArray} {k:Nat} (hs:Ep B) (h:Ez B S k true):Bq S B=k∧k<B.length:=by
 obtain ⟨h1,h2,h3,h4⟩:=h;obtain ⟨hk,he⟩:=h4.1 rfl;refine ⟨?_,hk⟩;rw [←he];exact RM hs hk
theorem Xv {m:BK}:∀{B:List BK} {k:Nat},k≤B.length→(∀j (h:j<B.length),j<k→AO B[j].1 m.1=true)→(∀h:k<B.length,AO m.1 B[k].1=true)→Bg m B=B.take k++[m]++B.drop k:=by
 intro B
 induction B with
 |nil=>intro k hk _ _;simp at hk;subst hk;rfl
 |cons b B ih=>
  intro k hk h1 h2;cases k with
  |zero=>
   have:=h2 (by simp);simp at this;simp [Bg,this]
  |succ k=>
   have hb:=h1 0 (by simp) (by omega);simp at hb;have hb2:=Qj hb;have:=ih (k:=k) (by simpa using hk) (fun j hj hjk=>by have:=h1 (j+1) (by simpa using hj) (by omega);simpa using this) (fun hk2=>by have:=h2 (by simpa using hk2);simpa using this);simp only [Bg,hb2,List.take_succ_cons,List.drop_succ_cons,List.cons_append];simpa using this
theorem Ym {B:List BK} {S:ByteArray} {n:Int} {k:Nat} (h:Ez B S k false):Bg (S,n) B=B.take k++[(S,n)]++B.drop k:=by
 obtain ⟨h1,h2,h3,h4⟩:=h;refine Xv h1 h2 (fun hk=>?_);have h5:=h3 hk;cases h6:AO S B[k].1
 ·exact absurd (h4.2 ⟨hk,Pi h5 h6⟩) (by simp)
 ·rfl
theorem Qw {B:List BK} {S:ByteArray} {n:Int} {k:Nat} {there:Bool} (hB:AH B) (h:Ez B S k there):Cf B 4 S n k there=(Dj B S n,Cw B S n):=by
 have h8:=hB.1.1;unfold Cf Dj Cw;by_cases h1:S.size=0∨8<S.size
 ·have h1':S.size<1∨8<S.size:=by omega
  rw [if_pos ⟨rfl,h1⟩,if_pos h1'];simp
 ·have h1':¬(S.size<1∨8<S.size):=by omega
  simp only [h1,h1',and_false,if_false];by_cases h2:n<0∨6<n
  ·simp [h2]
  ·simp only [h2,and_false,if_false];cases there
   ·have h3:=LZ hB.2 h;simp only [h3,if_false];by_cases h4:B.length=8
    ·have h4':8≤B.length:=by omega
     simp [h4]
    ·have h4':¬8≤B.length:=by omega
     simp [h4,h4',Ym h]
   ·have h3:=MB hB.2 h;have h3':Bq S B<B.length:=by omega
    simp [h3']
theorem TI {B:List BK} {S:ByteArray} {n:Int} {k:Nat} {there:Bool} (hB:AH B) (h:Ez B S k there):Cf B 5 S n k there=(EQ B S,Ej B S):=by
 unfold Cf EQ Ej;cases there
 ·have h3:=LZ hB.2 h;simp [h3]
 ·obtain ⟨h3,h4⟩:=MB hB.2 h;have h3':Bq S B<B.length:=by omega
  simp [h3,List.eraseIdx_eq_take_drop_succ];exact ⟨fun h5=>absurd h4 (by omega),h4⟩
theorem Sl {B:List BK} {S:ByteArray} {n:Int} {k:Nat} {there:Bool} (hB:AH B) (h:Ez B S k there):Cf B 6 S n k there=(Er B S n,Dy B S n):=by
 unfold Cf Er Dy;by_cases h2:n<0∨6<n
 ·simp [h2]
 ·simp only [h2,and_false,if_false];cases there
  ·have h3:=LZ hB.2 h;simp [h3]
  ·obtain ⟨h3,h4⟩:=MB hB.2 h;have h3':Bq S B<B.length:=by omega
   simp [h3,h4,List.set_eq_take_append_cons_drop]
theorem Ap.masks {M:List Nat} {w:World} {v:Value} {n:Nat} {xs:List Value} (h:Ap w v n xs) (hM:∀g,v.ownBlock=some g→g∉M):Ap (Ay M w) v n xs:=by
 rcases h with h|⟨g,cap,rfl,hn,hg,hc⟩
 ·exact Or.inl h
 ·exact Or.inr ⟨g,cap,rfl,hn,by rw [Eo];exact hg,fun j u hu=>Bn.2 ⟨hc j u hu,hM g rfl⟩⟩
theorem IZ.has {M:List Nat} {w w':World} {c:Ac} {gen:Int} {vB:Value} {B:List BK} {e:Ending} (h:IZ w c gen vB B e w') (hg0:gen≠0) (hM:∀k∈M,k<w.heap.size) (hv:∀g,vB.ownBlock=some g→g∉M):
  ∃q,e= .returned (.pointer (some ⟨q,0,none⟩))∧Aa w w'∧w.heap.size≤q∧DQ (Ay M w') (.pointer (some ⟨q,0,none⟩)) c B gen:=by
 obtain ⟨q,vE,E,rfl,hb,hq,⟨⟨h0,h1,h2,h3,h4,h5⟩,h6,h7,h8,h9,h10⟩,hE,hok,hW,hTQ⟩:=h;have hqM:q∉M:=fun e=>by have:=hM q e;omega
 exact ⟨q,rfl,hb,hq,Or.inr ⟨q,E,rfl,⟨vB,vE,⟨Bn.2 ⟨h0,hqM⟩,Bn.2 ⟨h1,hqM⟩,Bn.2 ⟨h2,hqM⟩,Bn.2 ⟨h3,hqM⟩,Bn.2 ⟨h4,hqM⟩,Bn.2 ⟨h5,hqM⟩⟩,Bn.2 ⟨h6,hqM⟩,Bn.2 ⟨h7,hqM⟩,Bn.2 ⟨h8,hqM⟩,Ap.masks h9 hv,Ap.masks h10 (fun g hg e=>by have:=hM g e;have:=hE g hg;omega)⟩,hok,hW,hTQ,hg0⟩⟩
def Fi (base:Nat) (M:List Nat) (y:Ah) (w:World) (e:Ending) (w':World):Prop:=e= .returned (.bool true)∧∃y':Ah,Ab [y.a,y.q] w w'∧y'.At base M w'∧y'.a=y.a∧y'.q=y.q∧y'.vp=y.vp∧y'.ps=y.ps∧(y'.L=y.L∧y'.pp=y.pp)∧y'.g≤y.g+1
def AM (base:Nat) (M:List Nat) (y:Ah) (w:World):Prop:=y.At base M w∧(∀k∈M,k<w.heap.size)∧(∀j∈y.blocks,j∈M)∧y.blocks.Nodup∧y.g≤69999
theorem AM.ne {base:Nat} {M:List Nat} {y:Ah} {w:World} (h:AM base M y w):y.a≠y.q∧(∀j∈y.vp.ownBlock.toList,j∉[y.a,y.q])∧∀z∈y.ps,∀j∈z.blocks,j∉[y.a,y.q]:=by
 have hn:=h.2.2.2.1;unfold Ah.blocks at hn;rw [List.nodup_cons,List.nodup_cons] at hn;obtain ⟨h1,h2,h3⟩:=hn;simp only [ja,jT,not_or] at h1 h2;refine ⟨h1.1,fun j hj e=>?_,fun z hz j hj e=>?_⟩
 ·simp only [ja,List.not_mem_nil,or_false] at e;rcases e with rfl|rfl
  ·exact h1.2.1.1 hj
  ·exact h2.1.1 hj
 ·simp only [ja,List.not_mem_nil,or_false] at e;rcases e with rfl|rfl
  ·exact h1.2.1.2 (jd.2 ⟨z,hz,hj⟩)
  ·exact h2.1.2 (jd.2 ⟨z,hz,hj⟩)
theorem AM.delta {base:Nat} {M:List Nat} {y:Ah} {w w':World} (h:AM base M y w) (hb:Ab [y.a,y.q] w w') (y':Ah) (ha:y'.a=y.a) (hq:y'.q=y.q) (hc:y'.c=y.c) (hvp:y'.vp=y.vp) (hps:y'.ps=y.ps) (hL:Cz y.a y'.cells w') (hS:AG M y.q ⟨y.c,y'.B,y'.g,y.L,y.pp⟩ w') (hLp:y'.L=y.L∧y'.pp=y.pp) (hP:Am (Ay M w') y'.vb y'.B) (hG:AH y'.B)
  (hg:0≤y'.g∧y'.g≤70000∧(y'.g=0→y'.B=[])) (hH:DQ (Ay M w') y'.vs y.c y'.B y'.g):y'.At base M w':=by
 obtain ⟨n1,n2,n3⟩:=h.ne
 have hM2 : ∀ j ∈ [y.a, y.q], j ∈ M ∨ w.heap.size ≤ j := fun j hj => Or.inl (h.2.2.1 j (by
   simp only [ja, List.not_mem_nil, or_false] at hj
   rcases hj with rfl | rfl <;> simp [Ah.blocks]))
 obtain ⟨⟨h1,h2,h3,h4,h5,h6,h7,h8,h9,h10⟩, -⟩:=h;unfold Ah.At Ah.svp;rw [ha,hq,hc,hvp,hps,hLp.1,hLp.2];refine ⟨hL,hS,hP,hG,h5,hg,hH,AY h8 hb (fun g hg=>n2 g (by simp [hg])),h9,fun z hz=>(h10 z hz).but hb hM2 (n3 z hz)⟩
theorem Ap.but {N:List Nat} {w w':World} {v:Value} {n:Nat} {xs:List Value} (h:Ap w v n xs) (b:Ab N w w') (hd:∀g,v.ownBlock=some g→g∉N):Ap w' v n xs:=by
 rcases h with h|⟨g,cap,rfl,hn,hg,hc⟩
 ·exact Or.inl h
 ·exact Or.inr ⟨g,cap,rfl,hn,jN hg b.size,fun j u hu=>b.cell (hc j u hu) (hd g rfl)⟩
theorem AM.mem {base:Nat} {M:List Nat} {y:Ah} {w:World} (h:AM base M y w):y.a∈M∧y.q∈M∧y.a<w.heap.size∧y.q<w.heap.size:=
 ⟨h.2.2.1 _ (by simp [Ah.blocks]),h.2.2.1 _ (by simp [Ah.blocks]),h.2.1 _ (h.2.2.1 _ (by simp [Ah.blocks])),h.2.1 _ (h.2.2.1 _ (by simp [Ah.blocks]))⟩
theorem AM.own_a {base:Nat} {M:List Nat} {y:Ah} {w:World} (h:AM base M y w) {c:Ac} {B:List BK} {g:Int}:y.a∉(AT.mk c B g y.L y.pp).own y.q:=fun e=>by
 have hn:=h.2.2.2.1;unfold Ah.blocks at hn;rw [List.nodup_cons] at hn;unfold AT.own at e;refine hn.1 ?_;simp only [ja,jT] at e ⊢;rcases e with e|e|e
 ·exact Or.inl e
 ·exact Or.inr (Or.inr (Or.inl e))
 ·exact Or.inr (Or.inr (Or.inr e))
theorem AM.same {base:Nat} {M:List Nat} {y:Ah} {w w1 w2:World} (h:AM base M y w) (b1:Ab [y.q] w w1) (hS1:AG M y.q ⟨y.c,y.B,y.g,y.L,y.pp⟩ w1) (b2:Aa w1 w2):Fi base M y w (.returned (.bool true)) w2:=by
 obtain ⟨m1,m2,m3,m4⟩:=h.mem;have n1:=h.ne.1;have b12:Ab [y.q] w w2:=b1.step b2;have hqM:∀k∈[y.q],k∈M∨w.heap.size≤k:=fun k hk=>Or.inl (by rw [jP.1 hk];exact m2)
 have hbw:Ab [y.a,y.q] w w2:=b12.mono (fun k hk=>Or.inl (by rw [jP.1 hk];simp));refine ⟨rfl,y,hbw,h.delta hbw y rfl rfl rfl rfl rfl (h.1.1.but b12 (by simpa using n1)) (hS1.later b2) ⟨rfl,rfl⟩ (h.1.2.2.1.later (b12.mono hqM)) h.1.2.2.2.1 h.1.2.2.2.2.2.1 (h.1.2.2.2.2.2.2.1.masks b12 hqM),rfl,rfl,rfl,rfl,⟨rfl,rfl⟩,by omega⟩
theorem AM.done {base:Nat} {M:List Nat} {y:Ah} {w w1 w2 w3:World} {B':List BK} {v:Value} {n:Nat} (h:AM base M y w) (b1:Ab [y.q] w w1) (hS1:AG M y.q ⟨y.c,B',y.g+1,y.L,y.pp⟩ w1) (b2:Aa w1 w2) (hP2:Am w2 v B') (hv:∀g,v.ownBlock=some g→w.heap.size≤g) (hG:AH B')
  (b3:Aa (w2.setCell ⟨y.a,7,none⟩ v) w3) (hH:DQ (Ay M w3) (.pointer (some ⟨n,0,none⟩)) y.c B' (y.g+1)):Fi base M y w (.returned (.bool true)) (w3.setCell ⟨y.a,8,none⟩ (.pointer (some ⟨n,0,none⟩))):=by
 obtain ⟨m1,m2,m3,m4⟩:=h.mem;have n1:=h.ne.1;have hlim:=h.2.2.2.2;have hg0:=h.1.2.2.2.2.2.1.1;have b12:Ab [y.q] w w2:=b1.step b2;have haM:∀{wx:World},∀k∈[y.a],k∈M∨wx.heap.size≤k:=fun k hk=>Or.inl (by rw [jP.1 hk];exact m1)
 have c1:Ab [y.a] w2 (w2.setCell ⟨y.a,7,none⟩ v):=(Ab.refl _ _).set (by simp) _;have c2:Ab [y.a] w2 w3:=c1.step b3;have c3:Ab [y.a] w3 (w3.setCell ⟨y.a,8,none⟩ (.pointer (some ⟨n,0,none⟩))):=(Ab.refl _ _).set (by simp) _;have c4:=c2.trans c3;have hbw:Ab [y.a,y.q] w (w3.setCell ⟨y.a,8,none⟩ (.pointer (some ⟨n,0,none⟩))):=(b12.mono (fun k hk=>Or.inl (by rw [jP.1 hk];simp))).trans (c4.mono (fun k hk=>Or.inl (by rw [jP.1 hk];simp)));have hvM:∀g,v.ownBlock=some g→g∉M:=fun g hg e=>by have:=h.2.1 g e;have:=hv g hg;omega
 have hva:∀g,v.ownBlock=some g→g∉[y.a]:=fun g hg e=>by have:=hv g hg;rw [jP.1 e] at this;omega
 have hL1:Cz y.a y.cells w2:=h.1.1.but b12 (by simpa using n1);have hL2:=((hL1.set 7 v).later b3).set 8 (.pointer (some ⟨n,0,none⟩));refine ⟨rfl,{y with B:=B',g:=y.g+1,vb:=v,vs:= .pointer (some ⟨n,0,none⟩)},hbw,h.delta hbw _ rfl rfl rfl rfl rfl hL2 ((hS1.later b2).but c4 (fun j hj e=>?_) haM) ⟨rfl,rfl⟩ (Ap.masks (Ap.but hP2 c4 hva) hvM) hG ⟨?_,?_,?_⟩ (hH.masks c3 haM),rfl,rfl,rfl,rfl,⟨rfl,rfl⟩,?_⟩
 ·rw [jP.1 hj] at e;exact h.own_a e
 ·show 0≤y.g+1;omega
 ·show y.g+1≤70000;omega
 ·show y.g+1=0→_;intro e;omega
 ·show y.g+1≤y.g+1;omega
theorem Ah.count (y:Ah) (j:Nat):y.blocks.count j=[y.a].count j+[y.q].count j+y.vp.ownBlock.toList.count j+(y.ps.flatMap Au.blocks).count j+(y.L.count j+(Bh y.pp).count j):=by
 have:y.blocks=[y.a]++([y.q]++((y.vp.ownBlock.toList++y.ps.flatMap Au.blocks)++(y.L++Bh y.pp))):=rfl;rw [this];simp only [List.count_append];omega
theorem GS (a:Nat):1≤[a].count a:=Ak.1 (by simp)
def B9 (base:Nat) (M:List Nat) (y:Ah) (w w':World) (y':Ah):Prop:=∃N K:List Nat,Ab N w w'∧(∀j∈N,j∈y.blocks)∧y'.a=y.a∧y'.blocks.Nodup∧(∀j∈y'.blocks,(j∈y.blocks∨w.heap.size≤j)∧j<w'.heap.size)∧(∀j∈K,(j∈M∨w.heap.size≤j)∧j<w'.heap.size)∧y'.At base (y'.blocks++(K++M)) w'∧y'.g≤y.g+1
def Ah.even (y:Ah):Prop:=y.pp.length=y.ps.length
def El (base:Nat) (M:List Nat) (y:Ah) (w w':World):Prop:=∃y',B9 base M y w w' y'∧y'.even
theorem B9.later {base:Nat} {M:List Nat} {y y':Ah} {w w1 w2:World} (h:B9 base M y w w1 y') (b:Aa w1 w2):B9 base M y w w2 y':=by
 obtain ⟨N,K,h1,h2,h3,h4,h5,h6,h7,h8⟩:=h;exact ⟨N,K,h1.step b,h2,h3,h4,fun j hj=>⟨(h5 j hj).1,jN (h5 j hj).2 b.size⟩,fun j hj=>⟨(h6 j hj).1,jN (h6 j hj).2 b.size⟩,h7.but (N:=[]) (Ab.of_bel b) (by simp) (by simp),h8⟩
theorem B9.at {base:Nat} {M:List Nat} {y y':Ah} {w w':World} (h:B9 base M y w w' y'):∃M',y'.At base M' w':=by
 obtain ⟨N,K,h1,h2,h3,h4,h5,h6,h7,h8⟩:=h;exact ⟨_,h7⟩
theorem B9.size {base:Nat} {M:List Nat} {y y':Ah} {w w':World} (h:B9 base M y w w' y'):w.heap.size≤w'.heap.size:=by
 obtain ⟨N,K,h1, -⟩:=h;exact h1.size
theorem El.later {base:Nat} {M:List Nat} {y:Ah} {w w1 w2:World} (h:El base M y w w1) (b:Aa w1 w2):El base M y w w2:=by
 obtain ⟨y',h1,h2⟩:=h;exact ⟨y',h1.later b,h2⟩
theorem Ao.dpre {W0:Aw} {s:Nat} {x:WG} {w:World} (h:Ao W0 s x w) (k:Nat) (hk:k<x.prs.length) (hs:s≤69999):AM W0.heap.size x.M x.prs[k] w:=by
 have hy:=h.2.2.2.2.2.2.2.2.2.2.2.2.2 _ (jJ hk);have h1k:∀j,(x.prs[k]).blocks.count j≤(x.prs.flatMap Ah.blocks).count j:=fun j=>FL _ j _ _ (jJ _)
 have he:=WG.count x;have hc:=DK h.2.2.1;refine ⟨hy.1,fun j hj=>(h.2.2.2.2.1 j hj).2,fun j hj=>h.2.2.2.1 j (Ak.2 ?_),List.nodup_iff_count.2 fun a=>?_,by have:=hy.2.1;omega⟩
 ·have a1:=Ak.1 hj;have a2:=h1k j;have a3:=he j;omega
 ·have a2:=h1k a;have a3:=he a;have a4:=hc a;omega
theorem Ao.rpr {W0:Aw} {s:Nat} {x:WG} {w w':World} (h:Ao W0 s x w) (k:Nat) (hk:k<x.prs.length) (hr:El W0.heap.size x.M x.prs[k] w w'):∃x',Ao W0 (s+1) x' w'∧x'.p=x.p:=by
 obtain ⟨y',⟨N,K,hb,hN,ha,hnd,hnew,hK,hat,hg⟩,hev⟩:=hr;have hy:=(h.2.2.2.2.2.2.2.2.2.2.2.2.2 _ (jJ hk)).2.1;exact ⟨_,h.pr k hk N hb hN y' ha hnd hnew K hK hat ⟨by push_cast;omega,hev⟩ (by omega),rfl⟩
theorem Ao.even {W0:Aw} {s:Nat} {x:WG} {w:World} (h:Ao W0 s x w) (k:Nat) (hk:k<x.prs.length):(x.prs[k]).even:=(h.2.2.2.2.2.2.2.2.2.2.2.2.2 _ (jJ hk)).2.2
theorem AM.le {base:Nat} {M:List Nat} {y:Ah} {w:World} (h:AM base M y w) (j:Nat):[y.a].count j+[y.q].count j+y.vp.ownBlock.toList.count j+(y.ps.flatMap Au.blocks).count j+(y.L.count j+(Bh y.pp).count j)≤1:=by
 have:=DK h.2.2.2.1 j;rw [Ah.count] at this;exact this
theorem Fi.rpr {base:Nat} {M:List Nat} {y:Ah} {w w':World} {e:Ending} (h:AM base M y w) (hr:Fi base M y w e w') (hev:y.even):El base M y w w':=by
 obtain ⟨-,y',hb,hat,ha,hq,hvp,hps,⟨hl,hpp⟩,hg⟩:=hr;have hbl:y'.blocks=y.blocks:=by unfold Ah.blocks;rw [ha,hq,hvp,hps,hl,hpp]
 have hsz:=hb.size;refine ⟨y',⟨[y.a,y.q],[],hb,fun j hj=>?_,ha,hbl ▸ h.2.2.2.1,fun j hj=>?_,by simp,hat.app (fun j hj=>Or.inl (h.2.2.1 j (hbl ▸ hj))),hg⟩,by unfold Ah.even;rw [hpp,hps];exact hev⟩
 ·simp only [ja,List.not_mem_nil,or_false] at hj;rcases hj with rfl|rfl <;>simp [Ah.blocks]
 ·rw [hbl] at hj;exact ⟨Or.inl hj,jN (h.2.1 j (h.2.2.1 j hj)) hsz⟩
theorem AM.pl {base:Nat} {M:List Nat} {y:Ah} {w w':World} (h:AM base M y w) (N:List Nat) (hb:Ab N w w') (hN:∀j∈N,1≤[y.a].count j+y.vp.ownBlock.toList.count j+(y.ps.flatMap Au.blocks).count j) (vp':Value) (ps':List Au) (hL:Cz y.a (Ah.cells {y with vp:=vp',ps:=ps'}) w')
  (hrow:w'.ownsRow base 134 1 vp' ps'.length (ps'.map fun z=>Value.pointer (some ⟨z.p,0,none⟩))) (hlen:ps'.length≤4) (hnd:∀j,vp'.ownBlock.toList.count j+(ps'.flatMap Au.blocks).count j≤1)
  (hnew:∀j,1≤vp'.ownBlock.toList.count j+(ps'.flatMap Au.blocks).count j→(1≤y.vp.ownBlock.toList.count j+(y.ps.flatMap Au.blocks).count j∨w.heap.size≤j)∧j<w'.heap.size)
  (hps:∀z∈ps',z.At ((Ah.blocks {y with vp:=vp',ps:=ps'})++M) w'):B9 base M y w w' {y with vp:=vp',ps:=ps'}:=by
 have hle:=h.le;obtain ⟨m1,m2,m3,m4⟩:=h.mem;have hsz:=hb.size;have hcnt:=Ah.count {y with vp:=vp',ps:=ps'};simp only at hcnt;have hNb:∀j∈N,j∈y.blocks:=fun j hj=>Ak.2 (by rw [Ah.count];have:=hN j hj;omega)
 have hnew2:∀j∈Ah.blocks {y with vp:=vp',ps:=ps'},(j∈y.blocks∨w.heap.size≤j)∧j<w'.heap.size:=fun j hj=>by
  have a0:=Ak.1 hj;rw [hcnt] at a0;by_cases hv:1≤vp'.ownBlock.toList.count j+(ps'.flatMap Au.blocks).count j
  ·refine ⟨(hnew j hv).1.imp (fun e=>Ak.2 (by rw [Ah.count];omega)) id,(hnew j hv).2⟩
  ·have:j∈y.blocks:=Ak.2 (by rw [Ah.count];omega);exact ⟨Or.inl this,jN (h.2.1 j (h.2.2.1 j this)) hsz⟩
 have hA:∀j∈Ah.blocks {y with vp:=vp',ps:=ps'},j∈M∨w.heap.size≤j:=fun j hj=>(hnew2 j hj).1.imp (fun e=>h.2.2.1 j e) id
 have hNN:∀j∈N,j∈(Ah.blocks {y with vp:=vp',ps:=ps'})++M∨w.heap.size≤j:=fun j hj=>Or.inl (jU _ (h.2.2.1 j (hNb j hj)))
 have hqN:∀j∈N,j∉y.svp.own y.q:=fun j hj e=>by
  have a1:=hN _ hj;have a2:=hle j;have a3:=FZ y.svp y.q j;have a4:=Ak.1 e;simp only [Ah.svp] at a3;simp only [Ah.svp] at a4;omega
 obtain ⟨h1,h2,h3,h4,h5,h6,h7,h8,h9,h10⟩:=h.1.app hA;have hm:Aa (Ay ((Ah.blocks {y with vp:=vp',ps:=ps'})++M) w) (Ay ((Ah.blocks {y with vp:=vp',ps:=ps'})++M) w'):=hb.mono hNN;refine ⟨N,[],hb,hNb,rfl,List.nodup_iff_count.2 fun a=>?_,hnew2,by simp,⟨hL,h2.but hb hqN hNN,h3.later hm,h4,h5,h6,h7.later hm,hrow,hlen,hps⟩,by show y.g≤y.g+1;omega⟩;rw [hcnt];have a1:=hle a;have a2:=hnd a;by_cases hv:1≤vp'.ownBlock.toList.count a+(ps'.flatMap Au.blocks).count a
 ·rcases (hnew a hv).1 with e|e
  ·omega
  ·have b1:[y.a].count a=0:=jZ fun e2=>by
    have:=jP.1 (jb.1 e2);omega
   have b2:[y.q].count a=0:=jZ fun e2=>by
    have:=jP.1 (jb.1 e2);omega
   have b3:y.L.count a+(Bh y.pp).count a=0:=jZ fun e2=>by
    have:=h.2.1 a (h.2.2.1 a (Ak.2 (by rw [Ah.count];omega)));omega
   omega
 ·omega
theorem AM.others {base:Nat} {M:List Nat} {y:Ah} {w w':World} (h:AM base M y w) (N:List Nat) (hb:Ab N w w') (hN:∀j∈N,j∈y.blocks) (L:List Nat) (hL:∀j∈L,j∈y.blocks∨w.heap.size≤j) (z:Au) (hz:z∈y.ps) (hd:∀j∈z.blocks,j∉N):z.At (L++M) w':=by
 have hA:∀j∈L,j∈M∨w.heap.size≤j:=fun j hj=>(hL j hj).imp (fun e=>h.2.2.1 j e) id
 have:=(h.1.app hA).2.2.2.2.2.2.2.2.2 z hz;exact this.but hb (fun j hj=>Or.inl (jU _ (h.2.2.1 j (hN j hj)))) hd
end Go.Proofs.YtpapdkhjdelfcabGreat
