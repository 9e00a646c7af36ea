import Derived.Test.YtpapdkhjdelfcabGreatLBM
namespace Go.Proofs.YtpapdkhjdelfcabGreat
open Go.RowKit
set_option maxRecDepth 100000
set_option maxHeartbeats 4000000
def D5 (w:World) (e:Ending) (w':World):Prop:=∃(v:Value) (err:Int),e= .returned (.tuple #[v,.int .i64 err])∧Aa w w'∧
 (err=0→∃(q:Nat) (c:Ac) (gen:Int) (B:List BK) (E:List EN),v= .pointer (some ⟨q,0,none⟩)∧CL w.heap.size w' q c gen B E∧Dh c gen B E∧∀x∈E,Af x.2.1∧Af x.2.2)
theorem D5.no {w w':World} (h:Aa w w') (err:Int) (he:err≠0):D5 w (.returned (.tuple #[.pointer none,.int .i64 err])) w':=⟨_,_,rfl,h,fun e=>absurd e he⟩
theorem RS (s:ByteArray) (qa:Nat) (ca:Ac) (ga:Int) (BA:List BK) (EA:List EN) (w:World) (hs:s.size≤1099511627776) (hA:Bz w qa ca ga BA EA) (hAo:Dh ca ga BA EA) (hAI:∀x∈EA,Af x.2.1∧Af x.2.2) (hEAl:EA.length≤65535):
  Calls Tryz.prog 94 #[.string s,.pointer (some ⟨qa,0,none⟩)] w (D5 w):=by
 obtain ⟨i0,hi,hz0,hz1,hz2⟩:=info_parts Tryz.infoEN;have HA:=jp hA;have HAo:=jp hAo;have HAI:=jp hAI;clear hA hAo hAI;go_enter Tryz.func94,Tryz.ntmps94;go_wp2_with fail;refine (KD s _ hs).mono ?_;rintro e w1 ⟨a,ok,rfl,hb1,ha, -⟩;cases ok
 ·go_wp2;go_ret2;exact D5.no hb1 _ (by decide)
 ·go_upto_region 5 with fail
  have hT0:Aq (w1.alloc (.cells #[.string a,.bool false] 167)) w1.heap.size a false:=⟨by simp,by simp,by simp,by simp⟩;have hW0:Aa w (w1.alloc (.cells #[.string a,.bool false] 167)):=hb1.step_alloc _;have hpt0:w.heap.size≤w1.heap.size:=hb1.size;have hptl:w1.heap.size<(w1.alloc (.cells #[.string a,.bool false] 167)).heap.size:=by simp
  generalize w1.heap.size=pt at *;generalize w1.alloc (.cells #[.string a,.bool false] 167)=W0 at *;clear hb1;go_wp2_with fail;refine (Jr pt 2 a false _ (by decide) (by decide) (by unfold maxLen;omega) hT0).mono ?_;rintro e W1 ⟨v1,s1,sh1,rfl,hu1,hT1,h,rfl,g1, -, -, -⟩;have hW1:=hu1.bel hW0 hpt0;go_wp2_with fail;refine (C7 pt 4 s1 sh1 _ (by decide) (by decide) (by unfold maxLen;omega) hT1).mono ?_;rintro e W2 ⟨v2,s2,sh2,rfl,hu2,hT2,gen1,rfl,g2, -, -, -⟩;have hW2:=hu2.bel hW1 hpt0;go_wp2_with fail;refine (C7 pt 4 s2 sh2 _ (by decide) (by decide) (by unfold maxLen;omega) hT2).mono ?_;rintro e W3 ⟨v3,s3,sh3,rfl,hu3,hT3,crc,rfl,g3, -, -, -⟩;have hW3:=hu3.bel hW2 hpt0;have hptl3:pt<W3.heap.size:=jN hptl (jX hu1.size (jX hu2.size hu3.size));clear hu1 hu2 hu3 hT0 hT1 hT2 hW0 hW1 hW2 hptl;obtain ⟨vBA,vEA,⟨m0,m1,m2,m3,m4,m5⟩, -⟩:=HA.out.later hW3;go_upto_region 9 with fail
  have hX2:BR (W3.alloc (.cells #[.int .i64 ca.alg,.int .i64 ca.slots,.int .i64 ca.points,.int .i64 ca.probes,.string ca.key,.int .i64 ca.formats,.int .i64 0,.slice none 0 0,.slice none 0 0] 123)) W3.heap.size [.int .i64 ca.alg,.int .i64 ca.slots,.int .i64 ca.points,.int .i64 ca.probes,.string ca.key,.int .i64 ca.formats,.int .i64 0,.slice none 0 0,.slice none 0 0]:=BR.alloc _ _ _;have hT4:=hT3.later (Aa.step_alloc (jD _) (.cells #[.int .i64 ca.alg,.int .i64 ca.slots,.int .i64 ca.points,.int .i64 ca.probes,.string ca.key,.int .i64 ca.formats,.int .i64 0,.slice none 0 0,.slice none 0 0] 123));have hpx:w.heap.size≤W3.heap.size:=hW3.size;have hpxl:W3.heap.size<(W3.alloc (.cells #[.int .i64 ca.alg,.int .i64 ca.slots,.int .i64 ca.points,.int .i64 ca.probes,.string ca.key,.int .i64 ca.formats,.int .i64 0,.slice none 0 0,.slice none 0 0] 123)).heap.size:=by simp
  have hW4:=hW3.step_alloc (.cells #[.int .i64 ca.alg,.int .i64 ca.slots,.int .i64 ca.points,.int .i64 ca.probes,.string ca.key,.int .i64 ca.formats,.int .i64 0,.slice none 0 0,.slice none 0 0] 123);have hne:W3.heap.size≠pt:=by omega
  clear hT3 hW3 m0 m1 m2 m3 m4 m5;generalize W3.heap.size=px at *;generalize W3.alloc (.cells #[.int .i64 ca.alg,.int .i64 ca.slots,.int .i64 ca.points,.int .i64 ca.probes,.string ca.key,.int .i64 ca.formats,.int .i64 0,.slice none 0 0,.slice none 0 0] 123)=X0 at *;go_wp2_with fail;refine (C7 pt 4 s3 sh3 _ (by decide) (by decide) (by unfold maxLen;omega) hT4).mono ?_;rintro e X1 ⟨v,r1,q1,rfl,hu,hT',gen,rfl,z1,gen0,gen1', -⟩;have gen2:gen<4294967296:=by simpa using gen1'
  clear gen1';have hX':=hX2.but hu hne;have hc:=(hX' 6 _ rfl).1;have hf:=(hX' 6 _ rfl).2;have hW':=hu.bel hW4 hpt0;have hlt':px<X1.heap.size:=jN hpxl hu.size;clear hX2 hT4 hW4 hu hpxl hptl3;have hX:BR (X1.setCell ⟨px,6,none⟩ (.int .i64 gen)) px [.int .i64 ca.alg,.int .i64 ca.slots,.int .i64 ca.points,.int .i64 ca.probes,.string ca.key,.int .i64 ca.formats,.int .i64 gen,.slice none 0 0,.slice none 0 0]:=hX'.set 6 _;have hT:Aq (X1.setCell ⟨px,6,none⟩ (.int .i64 gen)) pt r1 q1:=hT'.other hne;have hW:Aa w (X1.setCell ⟨px,6,none⟩ (.int .i64 gen)):=hW'.step_set (p:=⟨px,6,none⟩) hpx _;have hlt:px<(X1.setCell ⟨px,6,none⟩ (.int .i64 gen)).heap.size:=by simpa using hlt'
  go_upto_region 10 with fail
  clear hX' hT' hW' hlt' hc hf;generalize X1.setCell ⟨px,6,none⟩ (.int .i64 gen)=Y1 at *;have hl5':pt<Y1.heap.size:=World.block_lt_of_cell? _ _ hT.1;go_wp2_with fail;refine (OB pt r1 q1 _ (by unfold maxLen;omega) hT hl5').mono ?_;rintro e Z1 ⟨vB,L,okb,s7,sh7,rfl,hu,hT6,hs7,hPB,hL8,hblk,hokb⟩;have hX6:=hX.but hu hne;have hW6:=hu.bel hW hpt0;have hBp:∀g,vB.ownBlock=some g→g≠pt:=fun g hg=>by have:=hblk g hg;omega
  have HNB:Hid (∀g,vB.ownBlock=some g→w.heap.size≤g):=fun g hg=>jX hW.size (hblk g hg)
  have hl6:px<Z1.heap.size:=jN hlt hu.size;have hc7:=(hX6 7 _ rfl).1;have hf7:=(hX6 7 _ rfl).2;clear hX hT hW hu hblk hlt hl5';have hX7:BR (Z1.setCell ⟨px,7,none⟩ vB) px [.int .i64 ca.alg,.int .i64 ca.slots,.int .i64 ca.points,.int .i64 ca.probes,.string ca.key,.int .i64 ca.formats,.int .i64 gen,vB,.slice none 0 0]:=hX6.set 7 _;have hT7:Aq (Z1.setCell ⟨px,7,none⟩ vB) pt s7 sh7:=hT6.other hne;have hW7:Aa w (Z1.setCell ⟨px,7,none⟩ vB):=hW6.step_set (p:=⟨px,7,none⟩) hpx _;have hl7:px<(Z1.setCell ⟨px,7,none⟩ vB).heap.size:=by simpa using hl6
  have hPB7:Am (Z1.setCell ⟨px,7,none⟩ vB) vB L:=hPB.set_x (hX6 0 _ rfl).1
  obtain ⟨aoB,capB,hvB⟩:∃ao cap,vB= .slice ao L.length cap:=by
   obtain ⟨ao,cap,hv,_⟩:=hPB.open;exact ⟨ao,cap,hv⟩
  subst hvB;go_upto_region 12 with fail
  clear hX6 hT6 hW6 hl6 hc7 hf7 hPB;generalize Z1.setCell ⟨px,7,none⟩ (.slice aoB L.length capB)=Z2 at *;cases okb
  ·go_wp2;go_ret2;exact D5.no hW7 _ (by decide)
  obtain ⟨rfl,hPO⟩:=hokb rfl;have HPO:=jp hPO;clear hokb hPO;go_wp2_with fail;refine (C7 pt 2 s7 false _ (by decide) (by decide) (by unfold maxLen;omega) hT7).mono ?_;rintro e V1 ⟨v,r2,q2,rfl,hu,hT8,nn,rfl,zz0,nn0,nn1, -⟩;have nn2:nn<65536:=by simpa using nn1
  clear nn1;replace hX7:=hX7.but hu hne;replace hPB7:=hPB7.but hu hBp;replace hW7:=hu.bel hW7 hpt0;replace hl7:px<V1.heap.size:=jN hl7 hu.size;clear hT7 hu;have hT7:=hT8;clear hT8;go_wp2_with fail;refine (C7 pt 2 r2 q2 _ (by decide) (by decide) (by unfold maxLen;omega) hT7).mono ?_;rintro e V2 ⟨v,r3,q3,rfl,hu,hT8,mm,rfl,zz1,mm0,mm1, -⟩;have mm2:mm<65536:=by simpa using mm1
  clear mm1;replace hX7:=hX7.but hu hne;replace hPB7:=hPB7.but hu hBp;replace hW7:=hu.bel hW7 hpt0;replace hl7:px<V2.heap.size:=jN hl7 hu.size;clear hT7 hu;have hT7:=hT8;clear hT8;go_wp2_with fail;refine (C7 pt 2 r3 q3 _ (by decide) (by decide) (by unfold maxLen;omega) hT7).mono ?_;rintro e V3 ⟨v,r4,q4,rfl,hu,hT8,kk,rfl,zz2,kk0,kk1, -⟩;have kk2:kk<65536:=by simpa using kk1
  clear kk1;replace hX7:=hX7.but hu hne;replace hPB7:=hPB7.but hu hBp;replace hW7:=hu.bel hW7 hpt0;replace hl7:px<V3.heap.size:=jN hl7 hu.size;clear hT7 hu;have hT7:=hT8;clear hT8;obtain ⟨n,rfl⟩:=jM nn0;obtain ⟨m,rfl⟩:=jM mm0;obtain ⟨k,rfl⟩:=jM kk0;have n3:n≤65535:=by omega
  have m3:m≤65535:=by omega
  have k3:k≤65535:=by omega
  clear nn0 nn2 mm0 mm2 kk0 kk2;have hptd:=Jq qa ca ga BA EA V3 (HA.out.later hW7);go_wp2_with fail;refine hptd.mono ?_;rintro e V4 ⟨pb,rfl,hb4,hpb⟩;have HPB:=jp hpb;replace hX7:=hX7.later hb4;replace hPB7:=hPB7.later hb4;replace hT7:=hT7.later hb4;replace hW7:=hW7.trans hb4;replace hl7:px<V4.heap.size:=jN hl7 hb4.size;clear hptd hpb hb4;obtain ⟨t0,t1, -, -⟩:=id hT7;cases q4
  rotate_left
  ·go_wp2;go_ret2;exact D5.no hW7 _ (by decide)
  cases hCH:(h.toList==[67,80])
  ·go_wp2;go_ret2;exact D5.no hW7 _ (by decide)
  have hl7':pt<V4.heap.size:=jF t0;go_upto_if 87 with fail
  go_cut [19] (fun u wc=>V4=wc∧∃sz:Nat,sz≤9∧u= .int .i64 (sz:Int))
  case first=>
   cases pb
   ·go_wp2_with fail;go_meet
    case rel=>exact ⟨rfl,2,by decide,rfl⟩
   ·go_wp2_with fail;go_meet
    case rel=>exact ⟨rfl,9,by decide,rfl⟩
  case rest=>
   obtain ⟨rfl,sz,hsz,rfl⟩:=hcut;have hr4:r4.size≤1099511627776:=by omega
   have hks:wrap64 ((k:Int) * (sz:Int))=((k * sz:Nat):Int):=by
    have:k * sz≤65535 * 9:=Nat.mul_le_mul k3 hsz;rw [←Int.natCast_mul];unfold wrap64;omega
   by_cases hrs:r4.size=k * sz
   rotate_left
   ·have hrb:((r4.size:Int) !=((k * sz:Nat):Int))=true:=by rw [bne_iff_ne];omega
    generalize k * sz=ks at *;go_wp2;go_ret2;exact D5.no hW7 _ (by decide)
   have hrb:((r4.size:Int) !=((k * sz:Nat):Int))=false:=by rw [jc];omega
   clear hrs;generalize k * sz=ks at *;go_wp2_with fail;refine (OJ pt k pb _ L r4 false _ (by unfold maxLen;omega) hT7 hl7' k3 hPB7 hL8 hBp).mono ?_;rintro e V5 ⟨vE,E2,ok2,s9,sh9,rfl,hu, -, -,hE2,hE2l,hgood⟩;have hX8:=hX7.but hu hne;have hPB8:=hPB7.but hu hBp;have hW8:=hu.bel hW7 hpt0;have HNE:Hid (∀g,vE.ownBlock=some g→w.heap.size≤g):=fun g hg=>jX hW7.size (hE2.2 g hg)
   have hE:=hE2.1;have HG:=jp hgood;clear hX7 hPB7 hW7 hT7 hl7' hl7 t0 t1 hu hE2 hgood hks hrb hCH;have himg:=Fw qa ca ga BA EA 1 V5 (HA.out.later hW8) HAo.out ⟨by decide,by decide⟩ (fun x hx=>⟨(HAI.out x hx).1.i64,(HAI.out x hx).2.i64⟩);go_wp2_with fail;refine himg.mono ?_;rintro e V6 ⟨im,rfl,hb6,him1,him2⟩;clear himg;have hsm:=fun wx=>L2 (im.extract 0 (im.size - 4)) wx (by unfold maxLen;simp;omega)
   go_wp2_with fail;refine (hsm _).mono ?_;rintro e V7 ⟨d,rfl,hb7, -, -⟩;have hb67:=hb6.trans hb7;have hX9:=hX8.later hb67;have hPB9:=hPB8.later hb67;have hE9:=hE.later hb67;have hW9:=hW8.trans hb67;obtain ⟨vBA,vEA,⟨m0,m1,m2,m3',m4,m5⟩,m6,m7,m8, -,hpEA⟩:=HA.out.later hW9;clear hX8 hPB8 hE hW8 hb6 hb7 hb67 hsm him1 him2
   obtain ⟨aoE,capE,rfl,hcapE⟩:∃ao cap,vEA= .slice ao EA.length cap∧EA.length≤cap:=by
    rcases hpEA.form with ⟨rfl,rfl⟩|⟨g,cap,rfl,hc,_⟩
    ·exact ⟨none,0,rfl,by simp⟩
    ·exact ⟨_,cap,rfl,hc⟩
   have HEA:Hid (EA.length≤65535):=hEAl
   obtain ⟨aoM,capM,rfl⟩:∃ao cap,vE= .slice ao E2.length cap:=by
    rcases hE9.form with ⟨rfl,rfl⟩|⟨g,cap,rfl,_⟩
    ·exact ⟨none,0,rfl⟩
    ·exact ⟨_,cap,rfl⟩
   cases eg:(gen1 !=ga)
   rotate_left
   ·go_wp2;go_ret2;exact D5.no hW9 _ (by decide)
   cases ed:(crc !=d)
   rotate_left
   ·go_wp2;go_ret2;exact D5.no hW9 _ (by decide)
   cases ok2
   ·go_wp2;go_ret2;exact D5.no hW9 _ (by decide)
   by_cases hle:EA.length<n+m
   ·have hleb:decide ((n:Int)+(m:Int)>(EA.length:Int))=true:=jL (by omega);clear hle;go_wp2;go_ret2;exact D5.no hW9 _ (by decide)
   have hleb:decide ((n:Int)+(m:Int)>(EA.length:Int))=false:=jK (by omega);have HLE:=jp hle;go_upto_region 34 with fail
   clear eg ed hle hleb;have hnE:n≤EA.length:=by have:=HLE.out;omega
   have hmE:m≤EA.length:=by have:=HLE.out;omega
   have hEl:=HEA.out;have hsl:=fun wx=>PL wx aoE EA.length capE n (by omega)
   go_wp2_with (first|(at_builtin;refine Fn _ rfl _ _ 121 rfl V7.heap.size 183 i0 (.agg #[.string ByteArray.empty,.int .i64 0,.int .i64 0]) 3 32 Tryz.underlying121 hi hz0 hz1 hz2 rfl (by decide) _ 0 [] rfl ?o1 _ n (Av (EA.take n)) rfl ?o2 ?c1 ?c2 ?c3 ?c4 ?c5 ?_))
   case o1=>exact World.ownsRow_nil _ _ _ _
   case o2=>exact MD hpEA hnE
   case c1=>rw [Iv];simp;omega
   case c2=>exact Ja _
   case c3=>unfold maxLen;omega
   case c4=>omega
   case c5=>exact jH _
   intro v8 V8 hown8 hgrow8;have hb8:Aa V7 V8:=(jD _).grown hgrow8 (fun g hg=>by cases hg);have hown8p:V8.ownsRow V7.heap.size 183 3 v8 n (Av (EA.take n)):=by simpa using hown8
   have HO8:=jp hown8p;have n8:=hb8.cell m8;have hE10:=hE9.later hb8;have hpE8:=hpEA.later hb8;have hs8:=hb8.size;have HPE:=jp hpEA;clear hown8 hown8p hgrow8 hsl m0 m1 m2 m3' m4 m5 m6 m7 hE9 hpEA;go_wp2_with (first|(at_builtin;refine Fn _ rfl _ _ 121 rfl V7.heap.size 183 i0 (.agg #[.string ByteArray.empty,.int .i64 0,.int .i64 0]) 3 32 Tryz.underlying121 hi hz0 hz1 hz2 rfl (by decide) v8 n (Av (EA.take n)) rfl HO8.out _ E2.length (Av (E2.take E2.length)) rfl ?o2 ?c1 ?c2 ?c3 ?c4 ?c5 ?_))
   case o2=>exact MD hE10 (jH _)
   case c1=>rw [Iv];simp
   case c2=>exact Ja _
   case c3=>unfold maxLen;omega
   case c4=>omega
   case c5=>exact hs8
   intro v9 V9 hown9 hgrow9;have hb9:Aa V7 V9:=hb8.grown hgrow9 (fun g hg=>(World.ownsRow.lt HO8.out g hg).1);have HO9:=jp hown9;clear hown9 hgrow9 n8 hE10 hpE8 hb8;obtain ⟨em,hem⟩:∃em:Nat,em=EA.length - m:=⟨_,rfl⟩;have hwm:IntKind.i64.wrap ((EA.length:Int) - (m:Int))=(em:Int):=by rw [IntKind.wrap_i64,hem];omega
   have heml:em≤EA.length:=by omega
   have HEM:=jp hem;have hsf:=fun wx=>PE wx aoE EA.length capE em heml
   have hs9:=hb9.size;clear hem;generalize hcv:GY aoE EA.length capE em=cv at *;have HCV:=jp hcv;clear hcv;have hqal:qa<V9.heap.size:=World.block_lt_of_cell? _ _ (hb9.cell m8);go_upto_region 36 with fail
   go_region_held_law (fun w'=>Aa V7 w'∧w'.cell? ⟨qa,8,none⟩=some (.slice aoE EA.length capE)) ((exact ⟨by solve_by_elim [jA,jB,jC,jD,jE],Aa.cell (a:=V7) (by solve_by_elim [jA,jB,jC,jD,jE]) m8⟩))
    ((refine Tf rfl (.tmp 144) (.tmp 156) 121 rfl V7.heap.size 183 i0 (.agg #[.string ByteArray.empty, .int .i64 0, .int .i64 0]) 3 32 Tryz.underlying121 hi hz0 hz1 hz2 rfl (by decide) v9 (n + E2.length) (Av (EA.take n) ++ Av E2) (by simp [Act.eval]) (I6 HO9.out (by solve_by_elim [jA, jB, jC, jD, jE])) cv (EA.length - em) (Av (EA.drop em)) (by simp [Act.eval]) (HCV.out ▸ Nh (Cl.later HPE.out (by solve_by_elim [jA, jB, jC, jD, jE])) heml) (by rw [Iv, jh]) (Ja _) (by unfold maxLen; omega) (by omega) (by simp; omega) ?_
      intro v10 V10 hown10 hgrow10
      have hb10 : Aa V7 V10 := by
        first
        | exact hb9.grown hgrow10 (fun g hg => (World.ownsRow.lt HO9.out g hg).1)
        | exact (hb9.step_drew).grown hgrow10 (fun g hg => (World.ownsRow.lt HO9.out g hg).1)
      have H10 := jp hown10
      clear hown10 hgrow10))
   all_goals
    obtain ⟨E3,hE3⟩:∃E3,E3=EA.take n++E2++EA.drop em:=⟨_,rfl⟩;have hl3':E3.length=n+E2.length+(EA.length - em):=by rw [hE3];simp;omega
    have HE3:Hid (V10.ownsRow V7.heap.size 183 3 v10 E3.length (Av E3)):=by
     have h1:=H10.out;show V10.ownsRow _ _ _ _ _ _;rw [hl3',hE3,Kc,Kc];simpa using h1
    have HG3:Hid (∀x∈E3,Af x.2.1∧Af x.2.2):=by
     intro x hx;rw [hE3] at hx;rcases jT.1 hx with h|h
     ·rcases jT.1 h with h|h
      ·exact HAI.out x (List.mem_of_mem_take h)
      ·exact (HG.out x h).2
     ·exact HAI.out x (List.mem_of_mem_drop h)
    have hl3:E3.length≤140000:=by have:=HLE.out;have:=HEM.out;omega
    obtain ⟨ao3,cap3,rfl, -,hE3a⟩:=Pj HE3.out;have hPB10:=hPB9.later hb10;have hX10:=hX9.later hb10;have hW10:=hW9.trans hb10;have HNE3:Hid (∀g,(Value.slice ao3 E3.length cap3).ownBlock=some g→w.heap.size≤g):=fun g hg=>jX hW9.size (World.ownsRow.lt HE3.out g hg).1
    clear H10 hE3 hl3' hPB9 hX9 hW9 hb9 hb10 hwm hsf m8 HPE HCV HO8 HO9;go_wp2;go_loopg [25] E3.length (fun r vq wr=>Aa V10 wr∧∃t:Nat,t≤E3.length∧r=E3.length - t∧vq= .int .i64 t∧∀j (h:j<E3.length),j<t→∃b∈L,b.1=E3[j].1)
    case atStart=>exact ⟨jD _,0,by omega,by omega,rfl,fun j _ h=>by omega⟩
    case round=>
     obtain ⟨hbr,t,ht,hrt,rfl,hin⟩:=hrel;have HIN:=jp hin;clear hin;by_cases htl:t<E3.length
     ·have htb:decide ((t:Int)<(E3.length:Int))=true:=jL (by omega);rcases hE3a.form with ⟨-,hnil⟩|⟨g3,cap',hv, -, -,hcs⟩
      ·rw [hnil] at htl;simp at htl
      simp only [Value.slice.injEq,true_and] at hv;obtain ⟨rfl,rfl⟩:=hv;have e0:=hbr.cell (hcs t htl).1
      have HNX:Hid ((∃y∈L,y.1=E3[t].1)→∀j (h:j<E3.length),j<t+1→∃b∈L,b.1=E3[j].1):=fun hy j h1 h2=>by
       by_cases hj:j=t
       ·subst hj;exact hy
       ·exact HIN.out j h1 (by omega)
      clear hcs;generalize E3[t].1=idt at *;go_wp2;generalize wr=wo at *;go_loopg [26,27] L.length (fun r vi vo wx=>Aa wo wx∧∃(u:Nat) (b:Bool),u≤L.length∧r=L.length - u∧vo= .int .i64 u∧vi= .bool b∧(b=true→∃y∈L,y.1=idt))
      case atStart=>exact ⟨jD _,0,false,by omega,by omega,rfl,rfl,fun h=>by cases h⟩
      case round=>
       obtain ⟨hbo,u,b,hu,hru,rfl,rfl,hby⟩:=hrel;have HBY:=jp hby;clear hby;by_cases hul:u<L.length
       ·have hub:decide ((u:Int)<(L.length:Int))=true:=jL (by omega);have e0':=hbo.cell e0;cases b
        ·rcases hPB10.form with ⟨-,hnil⟩|⟨gB,capB',hv, -, -,hcB⟩
         ·rw [hnil] at hul;simp at hul
         simp only [Value.slice.injEq,true_and] at hv;obtain ⟨rfl,rfl⟩:=hv;have b0:=hbo.cell (hbr.cell (hcB u hul).1);have HEQ:Hid ((L[u].1.toList==idt.toList)=true↔L[u].1=idt):=FE;have HM:Hid (L[u].1=idt→∃y∈L,y.1=idt):=fun e=>⟨L[u],jJ hul,e⟩
         clear hcB;generalize L[u].1=lu at *;cases heq:(lu.toList==idt.toList)
         ·go_wp2_with fail;go_quiet (fail);go_wp2;go_roundg (L.length - (u+1))
          case measure=>omega
          case rel=>exact ⟨hbo.trans (by solve_by_elim [jA,jB,jC,jD,jE]),u+1,false,by omega,rfl,by go_num,rfl,fun h=>by cases h⟩
         ·have HY:=jp (HM.out (HEQ.out.1 heq));go_wp2_with fail;go_quiet (fail);go_wp2;go_roundg (L.length - (u+1))
          case measure=>omega
          case rel=>exact ⟨hbo.trans (by solve_by_elim [jA,jB,jC,jD,jE]),u+1,true,by omega,rfl,by go_num,rfl,fun _=>HY.out⟩
        ·go_wp2_with fail;go_quiet (fail);go_wp2;go_roundg (L.length - (u+1))
         case measure=>omega
         case rel=>exact ⟨hbo.trans (by solve_by_elim [jA,jB,jC,jD,jE]),u+1,true,by omega,rfl,by go_num,rfl,fun _=>HBY.out (by simp)⟩
       ·have hub:decide ((u:Int)<(L.length:Int))=false:=jK (by omega);have hbB:=hW10.trans (hbr.trans hbo);cases b
        ·go_wp2;go_ret2;exact D5.no hbB _ (by decide)
        ·have hb3:=hbr.trans hbo;go_wp2;go_roundg (E3.length - (t+1))
         case measure=>omega
         case rel=>exact ⟨hb3,t+1,by omega,rfl,by go_num,HNX.out (HBY.out (by simp))⟩
     ·have htb:decide ((t:Int)<(E3.length:Int))=false:=jK (by omega)
      have HALL:Hid (∀x∈E3,∃b∈L,b.1=x.1):=fun x hx=>by
       obtain ⟨j,hj,rfl⟩:=List.mem_iff_getElem.1 hx;exact HIN.out j hj (by omega)
      have hX:=hX10.later hbr;have c8:=(hX 8 _ rfl).1;have f8:=(hX 8 _ rfl).2;have hXs:=hX.set 8 (.slice ao3 E3.length cap3);have hPs:Am (wr.setCell ⟨px,8,none⟩ (.slice ao3 E3.length cap3)) (.slice aoB L.length capB) L:=(hPB10.later hbr).set_x (hX 0 _ rfl).1;have hEs:Cl (wr.setCell ⟨px,8,none⟩ (.slice ao3 E3.length cap3)) (.slice ao3 E3.length cap3) E3:=(hE3a.later hbr).set_x (hX 0 _ rfl).1;have hSt:Bz (wr.setCell ⟨px,8,none⟩ (.slice ao3 E3.length cap3)) px ca gen L E3:=Bz.of_blk hXs hPs hEs;have HStN:Hid (CL w.heap.size (wr.setCell ⟨px,8,none⟩ (.slice ao3 E3.length cap3)) px ca gen L E3):=CL.of_blk hXs hPs hEs hpx HNB.out HNE3.out;have hWs:Aa w (wr.setCell ⟨px,8,none⟩ (.slice ao3 E3.length cap3)):=(hW10.trans hbr).step_set (p:=⟨px,8,none⟩) hpx _
      have hfit:ca.Fit:=by
       obtain ⟨a1,a2,a3,a4, -,a6,a7,a8,a9,a10,a11,a12⟩:=HAo.out.1;exact ⟨⟨by omega,by omega⟩,⟨by omega,by omega⟩,⟨by omega,by omega⟩,⟨by omega,by omega⟩,⟨by omega,by omega⟩,by rw [a10];unfold maxLen;omega⟩
      have hwl:=NJ px ca gen L E3 _ hSt hfit HPO.out hl3;clear hX hXs hPs hEs hSt hX10 hPB10 hE3a hW10 hbr;go_wp2_with fail;refine hwl.mono ?_;rintro e W9 ⟨okw,rfl,hbw,hwh⟩;have hWw:=hWs.trans hbw;have HSN:=jp (HStN.out.later hbw);clear hwl;cases okw
      ·go_wp2;go_ret2;exact D5.no hWw _ (by decide)
      ·have HWH:=jp (hwh rfl);clear hwh;go_wp2;go_ret2;obtain ⟨hOK,hg1,hg2,hsl⟩:=HWH.out;exact ⟨_,_,rfl,hWw,fun _=>⟨px,ca,gen,L,E3,rfl,HSN.out,⟨hOK,⟨by omega,by omega⟩,HPO.out,hl3,HALL.out,hsl⟩,HG3.out⟩⟩
end Go.Proofs.YtpapdkhjdelfcabGreat
