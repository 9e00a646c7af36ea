import Derived.Test.YtpapdkhjdelfcabGreatHAP
import Derived.Test.YtpapdkhjdelfcabGreatHAO
import Derived.Test.YtpapdkhjdelfcabGreatHAM
import Derived.Deep.RegionHeld3
set_option maxRecDepth 100000
set_option maxHeartbeats 4000000
namespace Go.Proofs.YtpapdkhjdelfcabGreat
open Go.RowKit
def oneBk:List Bool→Option (BK×List Bool):=thenP (numP 8) fun k=>thenP (textP k) fun t=>thenP (numP 8) fun x=>doneP (txt t,(x:Int))
def bksX:List Bool→Option (List BK×List Bool):=thenP (numP 8) fun n=>manyP oneBk n
def BkAny (B:List BK):Prop:=B.length≤255∧∀b∈B,b.1.size≤255∧0≤b.2∧b.2≤255
def RTakeB (p:Nat) (o:Option (List Bool)) (w:World) (e:Ending) (w':World):Prop:=
 ∃(B:List BK) (o':Option (List Bool)) (v:Value) (x:Bool),e= .returned (.tuple #[v,.bool x])∧But [p] w w'∧Rs p o' w'∧o.bind bksX=o'.map (Prod.mk B)∧(x=true↔Good B)∧(x=true→OwnB w.heap.size w' v B)
theorem rs_row {p base:Nat} {X w5:World} {v:Value} {o:Option (List Bool)} (h:Rs p o X) (hg:X.grownBy w5 v.ownBlock) (hv:∀g,v.ownBlock=some g→base≤g) (hp:p<base):Rs p o w5:=
 h.kept (hg.block p h.lt (fun e=>by have:=hv p e.symm;omega))
theorem takeb_is (p:Nat) (o:Option (List Bool)) (w:World) (h:Rs p o w):
  Calls Tryz.prog 190 #[.pointer (some ⟨p,0,none⟩)] w (RTakeB p o w):=by
 obtain ⟨i0,hi,hz0,hz1,hz2⟩:=info_parts Tryz.infoBK;have hp:=h.lt;have H0:=Hid.mk (rint_p p o 1 w h (by omega));clear h;go_enter Tryz.func190,Tryz.ntmps190;go_wp2_with fail;refine H0.out.mono ?_;rintro e w1 ⟨n,o1,rfl,hB1,hR1,hn1,hq1⟩;have hn:n≤255:=by have:(2:Nat) ^ (8 * 1)=256:=rfl;omega
 have HB1:=Hid.mk hB1;have HR1:=Hid.mk hR1;have HQ1:=Hid.mk hq1;clear hB1 hR1 hn1 hq1 H0;go_wp2_with fail;go_loopg [4,6] n (fun r u d wr=>∃(k:Nat) (L:List BK) (o':Option (List Bool)) (v:Value),v=u∧r=n - k∧k≤n∧d= .int .i64 (k:Int)∧But [p] w wr∧Rs p o' wr∧L.length=k∧o1.bind (manyP oneBk k)=o'.map (Prod.mk L)∧OwnB w.heap.size wr v L)
 case atStart=>
  refine ⟨0,[],o1,_,rfl,rfl,by omega,rfl,HB1.out,HR1.out,rfl,?_,World.ownsRow_nil _ _ _ _⟩;cases o1 <;>rfl
 case round=>
  obtain ⟨k,L,o',v,rfl,hr,hkn,rfl,hB,hR,hlen,hq,hO⟩:=hrel;have HB:=Hid.mk hB;have HR:=Hid.mk hR;have HQ:=Hid.mk hq;have HO:=Hid.mk hO;have HN:=Hid.mk hlen;have Hsh:=Hid.mk (rshort_p p o' wr hR);have hs1:=hB.size;clear hB hR hq hO hlen HB1 HR1;have hfin:∀(oo:Option (List Bool)),o1.bind (manyP oneBk n)=oo.map (Prod.mk L)→o.bind bksX=oo.map (Prod.mk L):=fun oo h=>then_step HQ1.out h
  have HF:=Hid.mk hfin;clear hfin;by_cases hlt:k<n
  ·cases o' with
   |none=>
    go_wp2_with fail;refine Hsh.out.mono ?_;rintro e wq ⟨rfl,hbq⟩;replace HB:=Hid.mk (HB.out.step hbq);replace HR:=Hid.mk (HR.out.kept (hbq.block p HR.out.lt));replace HO:=Hid.mk (own_laterW HO.out hbq);have HPr:=Hid.mk (poolr_is L v wq (OwnB.pool HO.out) (by have:=HN.out;omega));clear hbq;go_wp2_with fail;refine HPr.out.mono ?_;rintro e w9 ⟨x,rfl,hb9,hx⟩;have HX:=Hid.mk hx;have HB9:=Hid.mk (HB.out.step hb9);have HR9:=Hid.mk (HR.out.kept (hb9.block p HR.out.lt));have HO9:=Hid.mk (own_laterW HO.out hb9);clear hx hb9 HPr;cases x
    ·go_wp2;go_ret2;exact ⟨L,none,.slice none 0 0,false,rfl,HB9.out,HR9.out,HF.out none (many_stop HQ.out (by omega)),by simpa using HX.out,fun h=>by cases h⟩
    ·go_wp2;go_ret2;exact ⟨L,none,v,true,rfl,HB9.out,HR9.out,HF.out none (many_stop HQ.out (by omega)),by simpa using HX.out,fun _=>HO9.out⟩
   |some X=>
    go_wp2_with fail;refine Hsh.out.mono ?_;rintro e wq ⟨rfl,hbq⟩;replace HB:=Hid.mk (HB.out.step hbq);replace HR:=Hid.mk (HR.out.kept (hbq.block p HR.out.lt));replace HO:=Hid.mk (own_laterW HO.out hbq);have hvq:Hid (∀g,v.ownBlock=some g→g<wq.heap.size):=fun g hg=>(World.ownsRow.lt HO.out g hg).2
    have hvn:Hid (v.ownBlock≠some wq.heap.size):=fun e=>by have:=hvq.out _ e;omega
    have HS:=Hid.mk (St.new (tq:=75) (qc:=#[.string ⟨#[]⟩,.int .i64 0]) HB.out HR.out);replace HO:=Hid.mk (World.ownsRow.alloc HO.out (.cells #[.string ⟨#[]⟩,.int .i64 0] 75));have hsq:=hbq.size;clear hbq Hsh HB HR hvq HF;have K1:=Hid.mk (rint_p p _ 1 _ HS.out.rs (by omega));go_wp2_with fail;refine K1.out.mono ?_;rintro e v1 ⟨sz,oa,rfl,hB,hR,hsz,hq1⟩;have hsz':sz≤255:=by have:(2:Nat) ^ (8 * 1)=256:=rfl;omega
    replace HS:=Hid.mk (HS.out.read hB hR);replace HO:=Hid.mk (own_but HO.out hB hp);have P1:=Hid.mk hq1;clear hB hR hsz hq1 K1;have K2:=Hid.mk (rtext_p p _ sz _ HS.out.rs (by omega));go_wp2_with fail;refine K2.out.mono ?_;rintro e v2 ⟨t,ob,rfl,hB,hR,htl,hq2⟩;have HT:=HS.out.read hB hR;have g0:=HT.box.cell 0 rfl;have k0:=HT.box.free 0;replace HO:=Hid.mk (ownsRow_setCell_other (own_but HO.out hB hp) hvn.out (a:=⟨wq.heap.size,0,none⟩) (.string (txt t)));replace HS:=Hid.mk (HT.put 0 (.string (txt t)) (qc':=#[.string (txt t),.int .i64 0]) rfl);have P2:=Hid.mk hq2;clear hB hR hq2 K2 HT htl;have K3:=Hid.mk (rint_p p _ 1 _ HS.out.rs (by omega));go_wp2_with fail;refine K3.out.mono ?_;rintro e v3 ⟨x,oc,rfl,hB,hR, -,hq3⟩;have HT:=HS.out.read hB hR;have g1:=HT.box.cell 1 rfl;have g2:=HT.box.cell 0 rfl;have k1:=HT.box.free 1;replace HO:=Hid.mk (ownsRow_setCell_other (own_but HO.out hB hp) hvn.out (a:=⟨wq.heap.size,1,none⟩) (.int .i64 (x:Int)));replace HS:=Hid.mk (HT.put 1 (.int .i64 (x:Int)) (qc':=#[.string (txt t),.int .i64 (x:Int)]) rfl);have P3:=Hid.mk hq3;have HQ9:Hid (o1.bind (manyP oneBk (k+1))=oc.map (Prod.mk (L++[(txt t,(x:Int))]))):=many_step HQ.out (then_step P1.out (then_step P2.out (then_step P3.out (done_step _))));have hv3:Hid (w.heap.size≤v3.heap.size):=by show _≤_;have:=HS.out.1.size;simpa using this
    clear hB hR hq3 K3 HT g0 k0 P1 P2 P3 HQ;have hL2:L.length≤255:=by have:=HN.out;omega
    go_wp2_with (first|(at_builtin;refine wpList_append_own _ rfl _ _ 58 rfl w.heap.size 75 i0 (.agg #[.string ByteArray.empty,.int .i64 0]) 2 24 Tryz.underlying58 hi hz0 hz1 hz2 rfl (by decide) _ L.length (pcells L) rfl ?p1a ⟨v3.heap.size,0,none⟩ 1 1 [.string (txt t),.int .i64 (x:Int)] rfl rfl ?da1 ?da2 ?da3 ?da4 ?da5 ?_))
    case p1a=>exact World.ownsRow.alloc HO.out _
    try (case da1=>exact two_new _ _ _ _ _ (by simp))
    case da2=>first|exact ⟨rfl,rfl⟩|exact two_one rfl rfl|(intro u hu;simp at hu;rcases hu with rfl|rfl <;>rfl)
    case da3=>unfold maxLen;omega
    case da4=>omega
    case da5=>first|(have:=hv3.out;omega)|(have:=hv3.out;simp;omega)
    intro v5 w5 hown5 hgrow5 _;have HB5:=Hid.mk (but_grown (HS.out.1.alloc _) hgrow5 (fun g hg=>(World.ownsRow.lt HO.out g hg).1));have HR5:=Hid.mk (rs_row (HS.out.rs.kept (Bel.block (Bel.step_alloc (Bel.refl _) _) p HS.out.rs.lt)) hgrow5 (fun g hg=>(World.ownsRow.lt HO.out g hg).1) hp);have HO5:Hid (OwnB w.heap.size w5 v5 (L++[(txt t,(x:Int))])):=OwnB.snoc (b:=(txt t,(x:Int))) hown5 rfl;clear hown5 hgrow5;go_wp2;go_roundg (n - (k+1))
    case measure=>omega
    case rel=>exact ⟨k+1,_,oc,_,rfl,rfl,by omega,by go_num,HB5.out,HR5.out,by simpa using HN.out,HQ9.out,HO5.out⟩
  ·obtain rfl:k=n:=by omega
   have HPr:=Hid.mk (poolr_is L v wr (OwnB.pool HO.out) (by have:=HN.out;omega));clear Hsh;go_wp2_with fail;refine HPr.out.mono ?_;rintro e w9 ⟨x,rfl,hb9,hx⟩;have HX:=Hid.mk hx;have HB9:=Hid.mk (HB.out.step hb9);have HR9:=Hid.mk (HR.out.kept (hb9.block p HR.out.lt));have HO9:=Hid.mk (own_laterW HO.out hb9);clear hx hb9 HPr;cases x
   ·go_wp2;go_ret2;exact ⟨L,o',.slice none 0 0,false,rfl,HB9.out,HR9.out,HF.out o' HQ.out,by simpa using HX.out,fun h=>by cases h⟩
   ·go_wp2;go_ret2;exact ⟨L,o',v,true,rfl,HB9.out,HR9.out,HF.out o' HQ.out,by simpa using HX.out,fun _=>HO9.out⟩
end Go.Proofs.YtpapdkhjdelfcabGreat
namespace Go.Proofs.YtpapdkhjdelfcabGreat
open Go.RowKit
def oneEn (wp wo:Nat):List Bool→Option (EI×List Bool):=thenP (numP wp) fun x=>thenP (numP wo) fun y=>doneP ((x:Int),(y:Int))
def EnR (e:EI):Prop:=0≤e.1∧e.1<18446744073709551616∧0≤e.2∧e.2<65536
def RTakeE (p:Nat) (o:Option (List Bool)) (wp wo n:Nat) (w:World) (e:Ending) (w':World):Prop:=
 ∃(L:List EI) (o':Option (List Bool)) (v:Value),e= .returned v∧But [p] w w'∧Rs p o' w'∧o.bind (manyP (oneEn wp wo) n)=o'.map (Prod.mk L)∧OwnE w.heap.size w' v L∧L.length≤n∧∀e∈L,EnR e
theorem pow_le_64 {x wp : Nat} (h : x < 2 ^ wp) (hw : wp ≤ 64) : x < 18446744073709551616 := Nat.lt_of_lt_of_le h (by
  have : (2 : Nat) ^ wp ≤ 2 ^ 64 := Nat.pow_le_pow_right (by decide) hw
  simpa using this)
theorem pow_le_16 {x wp : Nat} (h : x < 2 ^ wp) (hw : wp ≤ 16) : x < 65536 := Nat.lt_of_lt_of_le h (by
  have : (2 : Nat) ^ wp ≤ 2 ^ 16 := Nat.pow_le_pow_right (by decide) hw
  simpa using this)
theorem takee_is (p:Nat) (o:Option (List Bool)) (wp wo n:Nat) (w:World) (h:Rs p o w) (h1:wp≤64) (h2:wo≤16) (hn:n≤65535):
  Calls Tryz.prog 191 #[.pointer (some ⟨p,0,none⟩),.agg #[.int .i64 (wp:Int),.int .i64 (wo:Int)],.int .i64 (n:Int)] w (RTakeE p o wp wo n w):=by
 obtain ⟨i0,hi,hz0,hz1,hz2⟩:=info_parts Tryz.infoEI;have hp:=h.lt;obtain ⟨W0,hW0⟩:∃W0,W0=w.alloc (.cells #[.int .i64 (wp:Int),.int .i64 (wo:Int)] 219):=⟨_,rfl⟩;have HR0:Hid (Rs p o W0):=by show Rs p o W0;rw [hW0];exact h.kept (((Bel.refl w).step_alloc _).block p h.lt)
 have HX0:Hid (BoxC w.heap.size 219 #[.int .i64 (wp:Int),.int .i64 (wo:Int)] W0):=by show BoxC _ _ _ W0;rw [hW0];exact BoxC.new _ _ _
 have hs0:W0.heap.size=w.heap.size+1:=by rw [hW0];simp
 have HBW:Hid (Bel w W0):=by show Bel w W0;rw [hW0];exact (Bel.refl w).step_alloc _
 have HS0:=Hid.mk hs0;clear h hs0;go_enter Tryz.func191,Tryz.ntmps191;go_wp2_with fail;rw [←hW0];clear hW0;go_loopg [7,8] n (fun r u d wr=>∃(k:Nat) (L:List EI) (o':Option (List Bool)) (v:Value),v=u∧r=n - k∧k≤n∧d= .int .i64 (k:Int)∧But [p] W0 wr∧Rs p o' wr∧L.length=k∧o.bind (manyP (oneEn wp wo) k)=o'.map (Prod.mk L)∧OwnE w.heap.size wr v L∧∀e∈L,EnR e)
 case atStart=>
  refine ⟨0,[],o,_,rfl,rfl,by omega,rfl,But.refl _ _,HR0.out,rfl,?_,World.ownsRow_nil _ _ _ _,fun e he=>by cases he⟩;cases o <;>rfl
 case round=>
  obtain ⟨k,L,o',v,rfl,hr,hkn,rfl,hB,hR,hlen,hq,hO,hA⟩:=hrel;have HB:=Hid.mk hB;have HR:=Hid.mk hR;have HQ:=Hid.mk hq;have HO:=Hid.mk hO;have HN:=Hid.mk hlen;have HA:=Hid.mk hA;have Hsh:=Hid.mk (rshort_p p o' wr hR);have hs1:=hB.size;clear hB hR hq hO hlen HR0 hA;by_cases hlt:k<n
  ·cases o' with
   |none=>
    go_wp2_with fail;refine Hsh.out.mono ?_;rintro e wq ⟨rfl,hbq⟩;replace HB:=Hid.mk ((But.of_bel HBW.out).trans (HB.out.step hbq));replace HR:=Hid.mk (HR.out.kept (hbq.block p HR.out.lt));replace HO:=Hid.mk (own_laterW HO.out hbq);clear hbq Hsh;go_wp2;go_ret;exact ⟨L,none,v,rfl,HB.out,HR.out,many_stop HQ.out (by omega),HO.out,by have:=HN.out;omega,HA.out⟩
   |some X=>
    go_wp2_with fail;refine Hsh.out.mono ?_;rintro e wq ⟨rfl,hbq⟩;replace HB:=Hid.mk (HB.out.step hbq);replace HR:=Hid.mk (HR.out.kept (hbq.block p HR.out.lt));replace HO:=Hid.mk (own_laterW HO.out hbq);have hvq:Hid (∀g,v.ownBlock=some g→g<wq.heap.size):=fun g hg=>(World.ownsRow.lt HO.out g hg).2
    have hvn:Hid (v.ownBlock≠some wq.heap.size):=fun e=>by have:=hvq.out _ e;omega
    have HS:=Hid.mk (St.new (tq:=116) (qc:=#[.int .u64 0,.int .i64 0]) HB.out HR.out);replace HO:=Hid.mk (World.ownsRow.alloc HO.out (.cells #[.int .u64 0,.int .i64 0] 116));have hsq:=hbq.size;have hwq:w.heap.size≠wq.heap.size:=by have:=HS0.out;omega
    have hwl:w.heap.size<wq.heap.size:=by have:=HS0.out;omega
    have x0:=(HX0.out.but HB.out (by simp;omega)).cell 0 rfl;clear hbq Hsh HB HR hvq;have K1:=Hid.mk (rnum_p p _ wp _ HS.out.rs (by omega));go_wp2_with fail;refine K1.out.mono ?_;rintro e v1 ⟨x,oa,rfl,hB,hR,hx,hq1⟩;have HT:=HS.out.read hB hR;have g0:=HT.box.cell 0 rfl;have k0:=HT.box.free 0;have x1:=(HX0.out.but HT.1 (by simp;omega)).cell 1 rfl;replace HO:=Hid.mk (ownsRow_setCell_other (own_but HO.out hB hp) hvn.out (a:=⟨wq.heap.size,0,none⟩) (.int .u64 (x:Int)));replace HS:=Hid.mk (HT.put 0 (.int .u64 (x:Int)) (qc':=#[.int .u64 (x:Int),.int .i64 0]) rfl);have P1:=Hid.mk hq1;have HX1:=Hid.mk (pow_le_64 hx h1);clear hB hR hx hq1 K1 HT x0;have K2:=Hid.mk (rnum_p p _ wo _ HS.out.rs (by omega));go_wp2_with fail;refine K2.out.mono ?_;rintro e v2 ⟨y,ob,rfl,hB,hR,hy,hq2⟩;have HT:=HS.out.read hB hR;have g1:=HT.box.cell 1 rfl;have g2:=HT.box.cell 0 rfl;have k1:=HT.box.free 1;have hy2:=pow_le_16 hy h2;replace HO:=Hid.mk (ownsRow_setCell_other (own_but HO.out hB hp) hvn.out (a:=⟨wq.heap.size,1,none⟩) (.int .i64 (y:Int)));replace HS:=Hid.mk (HT.put 1 (.int .i64 (y:Int)) (qc':=#[.int .u64 (x:Int),.int .i64 (y:Int)]) rfl);have P2:=Hid.mk hq2;have HQ9:Hid (o.bind (manyP (oneEn wp wo) (k+1))=ob.map (Prod.mk (L++[((x:Int),(y:Int))]))):=many_step HQ.out (then_step P1.out (then_step P2.out (done_step _)))
    have HA9:Hid (∀e∈L++[((x:Int),(y:Int))],EnR e):=fun e he=>by
     rcases List.mem_append.1 he with he|he
     ·exact HA.out e he
     ·obtain rfl:=List.mem_singleton.1 he;have:=HX1.out;exact ⟨by simp only;omega,by simp only;omega,by simp only;omega,by simp only;omega⟩
    have hv3:Hid (w.heap.size≤v2.heap.size):=by show _≤_;have:=HS.out.1.size;have:=HS0.out;simp at *;omega
    clear hB hR hq2 K2 HT g0 k0 P1 P2 HQ hy x1 HA;have hL2:L.length≤65535:=by have:=HN.out;omega
    go_wp2_with (first|(at_builtin;refine wpList_append_own _ rfl _ _ 64 rfl w.heap.size 116 i0 (.agg #[.int .u64 0,.int .i64 0]) 2 16 Tryz.underlying64 hi hz0 hz1 hz2 rfl (by decide) _ L.length (icells L) rfl ?p1a ⟨v2.heap.size,0,none⟩ 1 1 [.int .u64 (x:Int),.int .i64 (y:Int)] rfl rfl ?da1 ?da2 ?da3 ?da4 ?da5 ?_))
    case p1a=>exact World.ownsRow.alloc HO.out _
    try (case da1=>exact two_new _ _ _ _ _ (by simp))
    case da2=>first|exact ⟨rfl,rfl⟩|exact two_one rfl rfl|(intro u hu;simp at hu;rcases hu with rfl|rfl <;>rfl)
    case da3=>unfold maxLen;omega
    case da4=>omega
    case da5=>first|(have:=hv3.out;omega)|(have:=hv3.out;simp;omega)
    intro v5 w5 hown5 hgrow5 _
    have HB5 := Hid.mk (but_grown (HS.out.1.alloc _) hgrow5 (fun g hg => by
      have := (World.ownsRow.lt HO.out g hg).1
      have h3 : g ≠ w.heap.size := fun e => by
        rcases HO.out.2 with ⟨g1, _⟩ | ⟨g', cap, cur, g1, _, g2, _⟩
        · rw [g1] at hg; cases hg
        · rw [g1] at hg
          have hgg : g' = w.heap.size := by rw [← e]; simpa [Value.ownBlock] using hg
          rw [hgg] at g2
          have h4 := HX0.out.but HS.out.1 (by simp; omega)
          rw [BoxC, g2] at h4
          injection h4 with h4
          injection h4 with _ h4
          revert h4; decide
      have := HS0.out
      omega))
    have HR5:=Hid.mk (rs_row (HS.out.rs.kept (Bel.block (Bel.step_alloc (Bel.refl _) _) p HS.out.rs.lt)) hgrow5 (fun g hg=>(World.ownsRow.lt HO.out g hg).1) hp);have HO5:Hid (OwnE w.heap.size w5 v5 (L++[((x:Int),(y:Int))])):=OwnE.snoc (b:=((x:Int),(y:Int))) hown5 rfl;clear hown5 hgrow5;go_wp2;go_roundg (n - (k+1))
    case measure=>omega
    case rel=>exact ⟨k+1,_,ob,_,rfl,rfl,by omega,by go_num,HB5.out,HR5.out,by simpa using HN.out,HQ9.out,HO5.out,HA9.out⟩
  ·obtain rfl:k=n:=by omega
   clear Hsh;go_wp2;go_ret;exact ⟨L,o',v,rfl,(But.of_bel HBW.out).trans HB.out,HR.out,HQ.out,HO.out,by have:=HN.out;omega,HA.out⟩
end Go.Proofs.YtpapdkhjdelfcabGreat
namespace Go.Proofs.YtpapdkhjdelfcabGreat
open Go.RowKit
def eachF (c:Cfg):Int:=if c.alg=2 then c.points else 1
theorem each_is (c:Cfg) (w:World):Calls Tryz.prog 143 #[.agg c.cells] w (REach w (eachF c)):=by
 obtain ⟨alg,slots,points,probes,key,formats⟩:=c;unfold eachF Cfg.cells;by_cases h:alg=2
 ·subst h;exact each_ring slots points probes key formats w
 ·rw [if_neg h];exact each_one alg slots points probes key formats w (by simp [h])
def cntF (c:Cfg) (B:List BK):Int:=if wSum B<1 then 0 else if hasP c.alg then eachF c * wSum B else c.slots
theorem wSum_le {B:List BK} (h:PoolOK B):0≤wSum B∧wSum B≤48:=by
 have:=wSum_bound B (fun b hb=>(h.2 b hb).2.2) B.length;rw [List.take_of_length_le (Nat.le_refl _)] at this;have:=h.1;omega
theorem eachF_le {c:Cfg} (h:c.TOK):1≤eachF c∧eachF c≤3:=by
 obtain ⟨t1,t2,t3,t4, -,t5,t6,t7,t8,t9⟩:=h;unfold eachF;split <;>omega
theorem tcount_is (c:Cfg) (B:List BK) (v:Value) (w:World) (hP:PoolAt w v B) (hB:PoolOK B) (hc:c.TOK):
  Calls Tryz.prog 235 #[.agg c.cells,v] w (RSum w (cntF c B)):=by
 have hcf:Hid (cntF c B=if wSum B<1 then 0 else if hasP c.alg then eachF c * wSum B else c.slots):=rfl;have hle:=wSum_le hB;have hel:=eachF_le hc;have htot:=fun wx hx=>total_is B v wx hx hB
 have hea:=fun wx=>each_is c wx
 have hhp:=fun wx=>hasp_is c.alg wx
 have HP:=Hid.mk hP;generalize eachF c=ea at *;generalize cntF c B=cn at *;generalize wSum B=ws at *;obtain ⟨alg,slots,points,probes,key,formats⟩:=c;simp only [Cfg.cells] at *;obtain ⟨b1,b2⟩:=hle;obtain ⟨b3,b4⟩:=hel;generalize hasP alg=hp at *;clear hP hB hc;obtain ⟨W0,hW0⟩:∃W0,W0=w.alloc (.cells #[.int .i64 alg,.int .i64 slots,.int .i64 points,.int .i64 probes,.string key,.int .i64 formats] 34):=⟨_,rfl⟩;have HB0:Hid (Bel w W0):=by show Bel w W0;rw [hW0];exact (Bel.refl w).step_alloc _
 have HX0:Hid (BoxC w.heap.size 34 #[.int .i64 alg,.int .i64 slots,.int .i64 points,.int .i64 probes,.string key,.int .i64 formats] W0):=by show BoxC _ _ _ W0;rw [hW0];exact BoxC.new _ _ _
 go_enter Tryz.func235,Tryz.ntmps235;go_wp2_with fail;rw [←hW0];refine (htot _ (HP.out.later HB0.out)).mono ?_;rintro e w1 ⟨rfl,hb1⟩;have X1:=HX0.out.bel hb1;have HB1:=Hid.mk (HB0.out.trans hb1);have c0:=X1.cell 0 rfl;have c1:=X1.cell 1 rfl;have HX1:=Hid.mk X1;clear hb1 X1 HX0 HB0 hW0 htot;by_cases h1:ws<1
 ·rw [if_pos h1] at hcf;go_wp2;go_ret;exact ⟨ret_int hcf.out.symm,HB1.out⟩
 ·rw [if_neg h1] at hcf;have h1b:decide (ws<1)=false:=decide_eq_false h1;have h1c:1≤ws:=by omega
  clear h1;go_wp2_with fail;refine (hhp _).mono ?_;rintro e w2 ⟨rfl,hb2⟩;have X2:=HX1.out.bel hb2;have d0:=X2.cell 0 rfl;have d1:=X2.cell 1 rfl;have d2:=X2.cell 2 rfl;have d3:=X2.cell 3 rfl;have d4:=X2.cell 4 rfl;have d5:=X2.cell 5 rfl;have HB2:=Hid.mk (HB1.out.trans hb2);clear X2 hb2 HX1 HB1 c0 c1;cases hp
  ·rw [if_neg (by simp)] at hcf;go_wp2;go_ret;exact ⟨ret_int hcf.out.symm,HB2.out⟩
  ·rw [if_pos rfl] at hcf
   have hm:ea * ws≤150:=by
    have:ea * ws≤3 * 48:=Int.mul_le_mul b4 b2 b1 (by omega);omega
   have hm0:0≤ea * ws:=Int.mul_nonneg (by omega) b1;go_wp2_with fail;refine (hea _).mono ?_;rintro e w3 ⟨rfl,hb3⟩;have HB3:=Hid.mk (HB2.out.trans hb3);clear hb3;go_wp2;go_ret;exact ⟨ret_int hcf.out.symm,HB3.out⟩
end Go.Proofs.YtpapdkhjdelfcabGreat
