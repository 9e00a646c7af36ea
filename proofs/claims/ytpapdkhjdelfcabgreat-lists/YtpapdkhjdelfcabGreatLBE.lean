import Derived.Test.YtpapdkhjdelfcabGreatLBD
namespace Go.Proofs.YtpapdkhjdelfcabGreat
open Go.RowKit
set_option maxRecDepth 100000
set_option maxHeartbeats 4000000
theorem Bp {s:ByteArray} (h:Db s) (a b:Nat):Db (s.extract a b):=by
 intro i hi;have hi':a+i<s.size:=by simp at hi;omega
 have:=h (a+i) hi';simpa [ByteArray.getElem_extract] using this
theorem Dn (s:ByteArray) (h:Db s) (n:Nat) (hn:s.size=n):0≤Ba s.data.toList∧Ba s.data.toList<2 ^ n:=by
 have:=Ok s h s.size (jH _);rw [jR (by simp),hn] at this;exact this
theorem Zl (p:Nat) (n:Nat) (vB:Value) (B:List BK) (s:ByteArray) (sh:Bool) (w:World) (hs:s.size≤1099511627776) (ht:Aq w p s sh) (hp:p<w.heap.size) (hn:n≤65535) (hB:Am w vB B) (hBl:0≤B.length) (hB8:B.length≤2) (hBp:∀g,vB.ownBlock=some g→g≠p):
  Calls Tryz.prog 152 #[.pointer (some ⟨p,0,none⟩),.int .i64 n,.bool false,vB] w (GQ w p s B n):=by
 obtain ⟨i0,hi,hz0,hz1,hz2⟩:=info_parts Tryz.infoEN
 obtain ⟨aoB,capB,rfl⟩:∃ao cap,vB= .slice ao B.length cap:=by
  rcases hB.form with ⟨rfl,rfl⟩|⟨g,cap,rfl,_⟩
  ·exact ⟨_,_,rfl⟩
  ·exact ⟨_,_,rfl⟩
 go_enter Tryz.func152,Tryz.ntmps152;go_wp2;refine wp_loop_rounds 1 ?_;rw [rounds_succ];go_wp2_with fail;refine (It p s sh _ hs ht).mono ?_;rintro e w1 ⟨v1,s1,sh1,rfl,hb1,ht1,z,rfl,h1,rfl,h01,hz⟩;by_cases hlen:z.size<n * 1
 ·go_wp2;go_ret2;exact ⟨_,[],_,s1,sh1,rfl,hb1,ht1,h1,⟨Or.inl ⟨rfl,rfl,rfl⟩,fun g hg=>(by cases hg)⟩,by simp,fun x hx=>by simp at hx⟩
 ·have hzb:z.size≤8796093022208:=by omega
  clear hz;have hl1:decide (z.size<n)=false:=by simp;omega
  go_wp2_with fail;have HL:Hid (n * 1≤z.size):=by have h:=hlen;show _≤_;omega
  clear hlen;go_loopg [13,14] n (fun g v i wr=>∃(k:Nat) (L:List EN),g=n - k∧k≤n∧i= .int .i64 k∧L.length=k∧wr.ownsRow w.heap.size 183 3 v k (Av L)∧Aq wr p s1 sh1∧Ar p w wr∧∀x∈L,DZ B x)
  case atStart=>exact ⟨0,[],by omega,by omega,rfl,rfl,World.ownsRow_nil _ _ _ _,ht1,hb1,fun x hx=>by simp at hx⟩
  case round=>
   obtain ⟨k,L,hg,hk,rfl,hL,hown,ht2,hb2,hall⟩:=hrel;have hpw:p<wr.heap.size:=jN hp hb2.size;have hBw:=hB.but hb2 hBp;by_cases hlt:k<n
   ·have hkz:k * 1+1≤z.size:=by have hL':n * 1≤z.size:=HL.out;omega
    go_upto_region 15 with fail
    have hxz:(z.extract k (k+1)).size=1:=by have hL':n * 1≤z.size:=HL.out;simp;omega
    have hx01:=Bp h01 k (k+1);generalize z.extract k (k+1)=x at *;go_wp2_with fail;refine (Fe _ _ (by simp;omega) (Bp hx01 _ _)).mono ?_;rintro e w5 ⟨rfl,rfl⟩;have hk0:0≤Ba (x.extract 0 1).data.toList:=(Dn _ (Bp hx01 _ _) 1 (by simp;omega)).1;have hk9:Ba (x.extract 0 1).data.toList<2 ^ 1:=(Dn _ (Bp hx01 _ _) 1 (by simp;omega)).2;generalize Ba (x.extract 0 1).data.toList=kk at *;by_cases hkl:kk<(B.length:Int)
    ·obtain ⟨m,rfl⟩:=jM hk0;have hkl':m<B.length:=by omega
     obtain ⟨g,hao,hgc,hgl⟩:∃g,aoB=some ⟨g,0,none⟩∧wr.cell? ⟨g,m * 2,none⟩=some (.string B[m].1)∧g<wr.heap.size:=by
      rcases hBw.form with ⟨_,rfl⟩|⟨g,cap,hv,_,hgl,hc⟩
      ·simp at hkl'
      ·simp only [Value.slice.injEq] at hv;exact ⟨g,hv.1,(hc m hkl').1,hgl⟩
     subst hao;have hmem:∃b∈B,b.1=B[m].1:=⟨B[m],jJ hkl',rfl⟩;generalize B[m].1=idm at *;clear hk9;go_wp2_with (first|(at_builtin;refine wpList_append_own _ rfl _ _ 121 rfl w.heap.size 183 i0 (.agg #[.string ByteArray.empty,.int .i64 0,.int .i64 0]) 3 32 Tryz.underlying121 hi hz0 hz1 hz2 rfl (by decide) _ k (Av L) rfl ?o1 ⟨wr.heap.size+1,0,none⟩ 1 1 [.string idm,.int .i64 0,.int .i64 0] rfl rfl ?c1 ?c2 ?c3 ?c4 ?c5 ?_))
     case o1=>exact (hown.alloc _).alloc _
     case c1=>exact FX _ _ _ _ _ _ (by simp)
     case c2=>intro u hu;simp at hu;rcases hu with rfl|rfl|rfl <;>rfl
     case c3=>unfold maxLen;omega
     case c4=>omega
     case c5=>have:=hb2.size;simp;omega
     intro v' w6 hown' hgrow _;have hlt4:=fun g hg=>(hown.lt g hg).1
     have hb6:Ar p w w6:=((hb2.alloc _).alloc _).grown hgrow hlt4;have ht6:Aq w6 p s1 sh1:=Ar.text w (Aq.later ht2 (by solve_by_elim [jA,jB,jC,jD,jE])) hgrow hlt4 hp;clear hgrow;go_wp2_with fail;go_roundg (n - (k+1))
     case measure=>omega
     case rel=>exact ⟨k+1,L++[(idm,0,0)],rfl,by omega,by go_num,by simp [hL],by rw [Gq];exact hown',ht6,hb6,fun x hx=>by rcases jT.1 hx with h1|h1;exact hall x h1;(simp at h1;subst h1;exact ⟨hmem,Cd,Cd⟩)⟩
    ·go_wp2;go_ret2;exact ⟨_,[],_,s1,sh1,rfl,hb2.alloc _,Aq.later ht2 (by solve_by_elim [jA,jB,jC,jD,jE]),h1,⟨Or.inl ⟨rfl,rfl,rfl⟩,fun g hg=>(by cases hg)⟩,by simp,fun x hx=>by simp at hx⟩
   ·have hown':=Ap.of_owns hown;rw [←hL] at hown';have hents:Dz w.heap.size wr _ L:=⟨hown',fun g hg=>(World.ownsRow.lt hown g hg).1⟩;clear hown hown';go_wp2;go_ret2;exact ⟨_,L,_,s1,_,rfl,hb2,ht2,h1,hents,by omega,hall⟩
theorem YX (p:Nat) (n:Nat) (vB:Value) (B:List BK) (s:ByteArray) (sh:Bool) (w:World) (hs:s.size≤1099511627776) (ht:Aq w p s sh) (hp:p<w.heap.size) (hn:n≤65535) (hB:Am w vB B) (hBl:3≤B.length) (hB8:B.length≤4) (hBp:∀g,vB.ownBlock=some g→g≠p):
  Calls Tryz.prog 152 #[.pointer (some ⟨p,0,none⟩),.int .i64 n,.bool false,vB] w (GQ w p s B n):=by
 obtain ⟨i0,hi,hz0,hz1,hz2⟩:=info_parts Tryz.infoEN
 obtain ⟨aoB,capB,rfl⟩:∃ao cap,vB= .slice ao B.length cap:=by
  rcases hB.form with ⟨rfl,rfl⟩|⟨g,cap,rfl,_⟩
  ·exact ⟨_,_,rfl⟩
  ·exact ⟨_,_,rfl⟩
 go_enter Tryz.func152,Tryz.ntmps152;go_wp2;refine wp_loop_rounds 2 ?_;rw [rounds_succ];go_wp2_with fail;rw [rounds_succ];go_wp2_with fail;refine (It p s sh _ hs ht).mono ?_;rintro e w1 ⟨v1,s1,sh1,rfl,hb1,ht1,z,rfl,h1,rfl,h01,hz⟩;by_cases hlen:z.size<n * 2
 ·go_wp2;go_ret2;exact ⟨_,[],_,s1,sh1,rfl,hb1,ht1,h1,⟨Or.inl ⟨rfl,rfl,rfl⟩,fun g hg=>(by cases hg)⟩,by simp,fun x hx=>by simp at hx⟩
 ·have hzb:z.size≤8796093022208:=by omega
  clear hz;skip;go_wp2_with fail;have HL:Hid (n * 2≤z.size):=by have h:=hlen;show _≤_;omega
  clear hlen;go_loopg [13,14] n (fun g v i wr=>∃(k:Nat) (L:List EN),g=n - k∧k≤n∧i= .int .i64 k∧L.length=k∧wr.ownsRow w.heap.size 183 3 v k (Av L)∧Aq wr p s1 sh1∧Ar p w wr∧∀x∈L,DZ B x)
  case atStart=>exact ⟨0,[],by omega,by omega,rfl,rfl,World.ownsRow_nil _ _ _ _,ht1,hb1,fun x hx=>by simp at hx⟩
  case round=>
   obtain ⟨k,L,hg,hk,rfl,hL,hown,ht2,hb2,hall⟩:=hrel;have hpw:p<wr.heap.size:=jN hp hb2.size;have hBw:=hB.but hb2 hBp;by_cases hlt:k<n
   ·have hkz:k * 2+2≤z.size:=by have hL':n * 2≤z.size:=HL.out;omega
    go_upto_region 15 with fail
    have hxz:(z.extract (k * 2) (k * 2+2)).size=2:=by have hL':n * 2≤z.size:=HL.out;simp;omega
    have hx01:=Bp h01 (k * 2) (k * 2+2);generalize z.extract (k * 2) (k * 2+2)=x at *;go_wp2_with fail;refine (Fe _ _ (by simp;omega) (Bp hx01 _ _)).mono ?_;rintro e w5 ⟨rfl,rfl⟩;have hk0:0≤Ba (x.extract 0 2).data.toList:=(Dn _ (Bp hx01 _ _) 2 (by simp;omega)).1;have hk9:Ba (x.extract 0 2).data.toList<2 ^ 2:=(Dn _ (Bp hx01 _ _) 2 (by simp;omega)).2;generalize Ba (x.extract 0 2).data.toList=kk at *;by_cases hkl:kk<(B.length:Int)
    ·obtain ⟨m,rfl⟩:=jM hk0;have hkl':m<B.length:=by omega
     obtain ⟨g,hao,hgc,hgl⟩:∃g,aoB=some ⟨g,0,none⟩∧wr.cell? ⟨g,m * 2,none⟩=some (.string B[m].1)∧g<wr.heap.size:=by
      rcases hBw.form with ⟨_,rfl⟩|⟨g,cap,hv,_,hgl,hc⟩
      ·simp at hkl'
      ·simp only [Value.slice.injEq] at hv;exact ⟨g,hv.1,(hc m hkl').1,hgl⟩
     subst hao;have hmem:∃b∈B,b.1=B[m].1:=⟨B[m],jJ hkl',rfl⟩;generalize B[m].1=idm at *;clear hk9;go_wp2_with (first|(at_builtin;refine wpList_append_own _ rfl _ _ 121 rfl w.heap.size 183 i0 (.agg #[.string ByteArray.empty,.int .i64 0,.int .i64 0]) 3 32 Tryz.underlying121 hi hz0 hz1 hz2 rfl (by decide) _ k (Av L) rfl ?o1 ⟨wr.heap.size+1,0,none⟩ 1 1 [.string idm,.int .i64 0,.int .i64 0] rfl rfl ?c1 ?c2 ?c3 ?c4 ?c5 ?_))
     case o1=>exact (hown.alloc _).alloc _
     case c1=>exact FX _ _ _ _ _ _ (by simp)
     case c2=>intro u hu;simp at hu;rcases hu with rfl|rfl|rfl <;>rfl
     case c3=>unfold maxLen;omega
     case c4=>omega
     case c5=>have:=hb2.size;simp;omega
     intro v' w6 hown' hgrow _;have hlt4:=fun g hg=>(hown.lt g hg).1
     have hb6:Ar p w w6:=((hb2.alloc _).alloc _).grown hgrow hlt4;have ht6:Aq w6 p s1 sh1:=Ar.text w (Aq.later ht2 (by solve_by_elim [jA,jB,jC,jD,jE])) hgrow hlt4 hp;clear hgrow;go_wp2_with fail;go_roundg (n - (k+1))
     case measure=>omega
     case rel=>exact ⟨k+1,L++[(idm,0,0)],rfl,by omega,by go_num,by simp [hL],by rw [Gq];exact hown',ht6,hb6,fun x hx=>by rcases jT.1 hx with h1|h1;exact hall x h1;(simp at h1;subst h1;exact ⟨hmem,Cd,Cd⟩)⟩
    ·go_wp2;go_ret2;exact ⟨_,[],_,s1,sh1,rfl,hb2.alloc _,Aq.later ht2 (by solve_by_elim [jA,jB,jC,jD,jE]),h1,⟨Or.inl ⟨rfl,rfl,rfl⟩,fun g hg=>(by cases hg)⟩,by simp,fun x hx=>by simp at hx⟩
   ·have hown':=Ap.of_owns hown;rw [←hL] at hown';have hents:Dz w.heap.size wr _ L:=⟨hown',fun g hg=>(World.ownsRow.lt hown g hg).1⟩;clear hown hown';go_wp2;go_ret2;exact ⟨_,L,_,s1,_,rfl,hb2,ht2,h1,hents,by omega,hall⟩
theorem Rg (p:Nat) (n:Nat) (vB:Value) (B:List BK) (s:ByteArray) (sh:Bool) (w:World) (hs:s.size≤1099511627776) (ht:Aq w p s sh) (hp:p<w.heap.size) (hn:n≤65535) (hB:Am w vB B) (hBl:5≤B.length) (hB8:B.length≤8) (hBp:∀g,vB.ownBlock=some g→g≠p):
  Calls Tryz.prog 152 #[.pointer (some ⟨p,0,none⟩),.int .i64 n,.bool false,vB] w (GQ w p s B n):=by
 obtain ⟨i0,hi,hz0,hz1,hz2⟩:=info_parts Tryz.infoEN
 obtain ⟨aoB,capB,rfl⟩:∃ao cap,vB= .slice ao B.length cap:=by
  rcases hB.form with ⟨rfl,rfl⟩|⟨g,cap,rfl,_⟩
  ·exact ⟨_,_,rfl⟩
  ·exact ⟨_,_,rfl⟩
 go_enter Tryz.func152,Tryz.ntmps152;go_wp2;refine wp_loop_rounds 3 ?_;rw [rounds_succ];go_wp2_with fail;rw [rounds_succ];go_wp2_with fail;rw [rounds_succ];go_wp2_with fail;refine (It p s sh _ hs ht).mono ?_;rintro e w1 ⟨v1,s1,sh1,rfl,hb1,ht1,z,rfl,h1,rfl,h01,hz⟩;by_cases hlen:z.size<n * 3
 ·go_wp2;go_ret2;exact ⟨_,[],_,s1,sh1,rfl,hb1,ht1,h1,⟨Or.inl ⟨rfl,rfl,rfl⟩,fun g hg=>(by cases hg)⟩,by simp,fun x hx=>by simp at hx⟩
 ·have hzb:z.size≤8796093022208:=by omega
  clear hz;skip;go_wp2_with fail;have HL:Hid (n * 3≤z.size):=by have h:=hlen;show _≤_;omega
  clear hlen;go_loopg [13,14] n (fun g v i wr=>∃(k:Nat) (L:List EN),g=n - k∧k≤n∧i= .int .i64 k∧L.length=k∧wr.ownsRow w.heap.size 183 3 v k (Av L)∧Aq wr p s1 sh1∧Ar p w wr∧∀x∈L,DZ B x)
  case atStart=>exact ⟨0,[],by omega,by omega,rfl,rfl,World.ownsRow_nil _ _ _ _,ht1,hb1,fun x hx=>by simp at hx⟩
  case round=>
   obtain ⟨k,L,hg,hk,rfl,hL,hown,ht2,hb2,hall⟩:=hrel;have hpw:p<wr.heap.size:=jN hp hb2.size;have hBw:=hB.but hb2 hBp;by_cases hlt:k<n
   ·have hkz:k * 3+3≤z.size:=by have hL':n * 3≤z.size:=HL.out;omega
    go_upto_region 15 with fail
    have hxz:(z.extract (k * 3) (k * 3+3)).size=3:=by have hL':n * 3≤z.size:=HL.out;simp;omega
    have hx01:=Bp h01 (k * 3) (k * 3+3);generalize z.extract (k * 3) (k * 3+3)=x at *;go_wp2_with fail;refine (Fe _ _ (by simp;omega) (Bp hx01 _ _)).mono ?_;rintro e w5 ⟨rfl,rfl⟩;have hk0:0≤Ba (x.extract 0 3).data.toList:=(Dn _ (Bp hx01 _ _) 3 (by simp;omega)).1;have hk9:Ba (x.extract 0 3).data.toList<2 ^ 3:=(Dn _ (Bp hx01 _ _) 3 (by simp;omega)).2;generalize Ba (x.extract 0 3).data.toList=kk at *;by_cases hkl:kk<(B.length:Int)
    ·obtain ⟨m,rfl⟩:=jM hk0;have hkl':m<B.length:=by omega
     obtain ⟨g,hao,hgc,hgl⟩:∃g,aoB=some ⟨g,0,none⟩∧wr.cell? ⟨g,m * 2,none⟩=some (.string B[m].1)∧g<wr.heap.size:=by
      rcases hBw.form with ⟨_,rfl⟩|⟨g,cap,hv,_,hgl,hc⟩
      ·simp at hkl'
      ·simp only [Value.slice.injEq] at hv;exact ⟨g,hv.1,(hc m hkl').1,hgl⟩
     subst hao;have hmem:∃b∈B,b.1=B[m].1:=⟨B[m],jJ hkl',rfl⟩;generalize B[m].1=idm at *;clear hk9;go_wp2_with (first|(at_builtin;refine wpList_append_own _ rfl _ _ 121 rfl w.heap.size 183 i0 (.agg #[.string ByteArray.empty,.int .i64 0,.int .i64 0]) 3 32 Tryz.underlying121 hi hz0 hz1 hz2 rfl (by decide) _ k (Av L) rfl ?o1 ⟨wr.heap.size+1,0,none⟩ 1 1 [.string idm,.int .i64 0,.int .i64 0] rfl rfl ?c1 ?c2 ?c3 ?c4 ?c5 ?_))
     case o1=>exact (hown.alloc _).alloc _
     case c1=>exact FX _ _ _ _ _ _ (by simp)
     case c2=>intro u hu;simp at hu;rcases hu with rfl|rfl|rfl <;>rfl
     case c3=>unfold maxLen;omega
     case c4=>omega
     case c5=>have:=hb2.size;simp;omega
     intro v' w6 hown' hgrow _;have hlt4:=fun g hg=>(hown.lt g hg).1
     have hb6:Ar p w w6:=((hb2.alloc _).alloc _).grown hgrow hlt4;have ht6:Aq w6 p s1 sh1:=Ar.text w (Aq.later ht2 (by solve_by_elim [jA,jB,jC,jD,jE])) hgrow hlt4 hp;clear hgrow;go_wp2_with fail;go_roundg (n - (k+1))
     case measure=>omega
     case rel=>exact ⟨k+1,L++[(idm,0,0)],rfl,by omega,by go_num,by simp [hL],by rw [Gq];exact hown',ht6,hb6,fun x hx=>by rcases jT.1 hx with h1|h1;exact hall x h1;(simp at h1;subst h1;exact ⟨hmem,Cd,Cd⟩)⟩
    ·go_wp2;go_ret2;exact ⟨_,[],_,s1,sh1,rfl,hb2.alloc _,Aq.later ht2 (by solve_by_elim [jA,jB,jC,jD,jE]),h1,⟨Or.inl ⟨rfl,rfl,rfl⟩,fun g hg=>(by cases hg)⟩,by simp,fun x hx=>by simp at hx⟩
   ·have hown':=Ap.of_owns hown;rw [←hL] at hown';have hents:Dz w.heap.size wr _ L:=⟨hown',fun g hg=>(World.ownsRow.lt hown g hg).1⟩;clear hown hown';go_wp2;go_ret2;exact ⟨_,L,_,s1,_,rfl,hb2,ht2,h1,hents,by omega,hall⟩
theorem YW (p:Nat) (n:Nat) (vB:Value) (B:List BK) (s:ByteArray) (sh:Bool) (w:World) (hs:s.size≤1099511627776) (ht:Aq w p s sh) (hp:p<w.heap.size) (hn:n≤65535) (hB:Am w vB B) (hBl:0≤B.length) (hB8:B.length≤2) (hBp:∀g,vB.ownBlock=some g→g≠p):
  Calls Tryz.prog 152 #[.pointer (some ⟨p,0,none⟩),.int .i64 n,.bool true,vB] w (GQ w p s B n):=by
 obtain ⟨i0,hi,hz0,hz1,hz2⟩:=info_parts Tryz.infoEN
 obtain ⟨aoB,capB,rfl⟩:∃ao cap,vB= .slice ao B.length cap:=by
  rcases hB.form with ⟨rfl,rfl⟩|⟨g,cap,rfl,_⟩
  ·exact ⟨_,_,rfl⟩
  ·exact ⟨_,_,rfl⟩
 go_enter Tryz.func152,Tryz.ntmps152;go_wp2;refine wp_loop_rounds 1 ?_;rw [rounds_succ];go_wp2_with fail;refine (It p s sh _ hs ht).mono ?_;rintro e w1 ⟨v1,s1,sh1,rfl,hb1,ht1,z,rfl,h1,rfl,h01,hz⟩;by_cases hlen:z.size<n * 65
 ·go_wp2;go_ret2;exact ⟨_,[],_,s1,sh1,rfl,hb1,ht1,h1,⟨Or.inl ⟨rfl,rfl,rfl⟩,fun g hg=>(by cases hg)⟩,by simp,fun x hx=>by simp at hx⟩
 ·have hzb:z.size≤8796093022208:=by omega
  clear hz;skip;go_wp2_with fail;have HL:Hid (n * 65≤z.size):=by have h:=hlen;show _≤_;omega
  clear hlen;go_loopg [13,14] n (fun g v i wr=>∃(k:Nat) (L:List EN),g=n - k∧k≤n∧i= .int .i64 k∧L.length=k∧wr.ownsRow w.heap.size 183 3 v k (Av L)∧Aq wr p s1 sh1∧Ar p w wr∧∀x∈L,DZ B x)
  case atStart=>exact ⟨0,[],by omega,by omega,rfl,rfl,World.ownsRow_nil _ _ _ _,ht1,hb1,fun x hx=>by simp at hx⟩
  case round=>
   obtain ⟨k,L,hg,hk,rfl,hL,hown,ht2,hb2,hall⟩:=hrel;have hpw:p<wr.heap.size:=jN hp hb2.size;have hBw:=hB.but hb2 hBp;by_cases hlt:k<n
   ·have hkz:k * 65+65≤z.size:=by have hL':n * 65≤z.size:=HL.out;omega
    go_upto_region 15 with fail
    have hxz:(z.extract (k * 65) (k * 65+65)).size=65:=by have hL':n * 65≤z.size:=HL.out;simp;omega
    have hx01:=Bp h01 (k * 65) (k * 65+65);generalize z.extract (k * 65) (k * 65+65)=x at *;go_wp2_with fail;refine (Fe _ _ (by simp;omega) (Bp hx01 _ _)).mono ?_;rintro e w3 ⟨rfl,rfl⟩
    have hhi:Af (Ba (x.extract 0 32).data.toList):=by
     have:=Dn _ (Bp hx01 0 32) 32 (by simp;omega);exact ⟨this.1,by simpa using this.2⟩
    generalize Ba (x.extract 0 32).data.toList=hi' at *;go_wp2_with fail;refine (Fe _ _ (by simp;omega) (Bp hx01 _ _)).mono ?_;rintro e w4 ⟨rfl,rfl⟩
    have hlo:Af (Ba (x.extract 32 64).data.toList):=by
     have:=Dn _ (Bp hx01 32 64) 32 (by simp;omega);exact ⟨this.1,by simpa using this.2⟩
    generalize Ba (x.extract 32 64).data.toList=lo' at *;go_wp2_with fail;refine (Fe _ _ (by simp;omega) (Bp hx01 _ _)).mono ?_;rintro e w5 ⟨rfl,rfl⟩;have hk0:0≤Ba (x.extract 64 65).data.toList:=(Dn _ (Bp hx01 _ _) 1 (by simp;omega)).1;have hk9:Ba (x.extract 64 65).data.toList<2 ^ 1:=(Dn _ (Bp hx01 _ _) 1 (by simp;omega)).2;generalize Ba (x.extract 64 65).data.toList=kk at *;by_cases hkl:kk<(B.length:Int)
    ·obtain ⟨m,rfl⟩:=jM hk0;have hkl':m<B.length:=by omega
     obtain ⟨g,hao,hgc,hgl⟩:∃g,aoB=some ⟨g,0,none⟩∧wr.cell? ⟨g,m * 2,none⟩=some (.string B[m].1)∧g<wr.heap.size:=by
      rcases hBw.form with ⟨_,rfl⟩|⟨g,cap,hv,_,hgl,hc⟩
      ·simp at hkl'
      ·simp only [Value.slice.injEq] at hv;exact ⟨g,hv.1,(hc m hkl').1,hgl⟩
     subst hao;have hmem:∃b∈B,b.1=B[m].1:=⟨B[m],jJ hkl',rfl⟩;generalize B[m].1=idm at *;clear hk9;go_wp2_with (first|(at_builtin;refine wpList_append_own _ rfl _ _ 121 rfl w.heap.size 183 i0 (.agg #[.string ByteArray.empty,.int .i64 0,.int .i64 0]) 3 32 Tryz.underlying121 hi hz0 hz1 hz2 rfl (by decide) _ k (Av L) rfl ?o1 ⟨wr.heap.size+1,0,none⟩ 1 1 [.string idm,.int .i64 hi',.int .i64 lo'] rfl rfl ?c1 ?c2 ?c3 ?c4 ?c5 ?_))
     case o1=>exact (hown.alloc _).alloc _
     case c1=>exact FX _ _ _ _ _ _ (by simp)
     case c2=>intro u hu;simp at hu;rcases hu with rfl|rfl|rfl <;>rfl
     case c3=>unfold maxLen;omega
     case c4=>omega
     case c5=>have:=hb2.size;simp;omega
     intro v' w6 hown' hgrow _;have hlt4:=fun g hg=>(hown.lt g hg).1
     have hb6:Ar p w w6:=((hb2.alloc _).alloc _).grown hgrow hlt4;have ht6:Aq w6 p s1 sh1:=Ar.text w (Aq.later ht2 (by solve_by_elim [jA,jB,jC,jD,jE])) hgrow hlt4 hp;clear hgrow;go_wp2_with fail;go_roundg (n - (k+1))
     case measure=>omega
     case rel=>exact ⟨k+1,L++[(idm,hi',lo')],rfl,by omega,by go_num,by simp [hL],by rw [Gq];exact hown',ht6,hb6,fun x hx=>by rcases jT.1 hx with h1|h1;exact hall x h1;(simp at h1;subst h1;exact ⟨hmem,hhi,hlo⟩)⟩
    ·go_wp2;go_ret2;exact ⟨_,[],_,s1,sh1,rfl,hb2.alloc _,Aq.later ht2 (by solve_by_elim [jA,jB,jC,jD,jE]),h1,⟨Or.inl ⟨rfl,rfl,rfl⟩,fun g hg=>(by cases hg)⟩,by simp,fun x hx=>by simp at hx⟩
   ·have hown':=Ap.of_owns hown;rw [←hL] at hown';have hents:Dz w.heap.size wr _ L:=⟨hown',fun g hg=>(World.ownsRow.lt hown g hg).1⟩;clear hown hown';go_wp2;go_ret2;exact ⟨_,L,_,s1,_,rfl,hb2,ht2,h1,hents,by omega,hall⟩
theorem RJ (p:Nat) (n:Nat) (vB:Value) (B:List BK) (s:ByteArray) (sh:Bool) (w:World) (hs:s.size≤1099511627776) (ht:Aq w p s sh) (hp:p<w.heap.size) (hn:n≤65535) (hB:Am w vB B) (hBl:3≤B.length) (hB8:B.length≤4) (hBp:∀g,vB.ownBlock=some g→g≠p):
  Calls Tryz.prog 152 #[.pointer (some ⟨p,0,none⟩),.int .i64 n,.bool true,vB] w (GQ w p s B n):=by
 obtain ⟨i0,hi,hz0,hz1,hz2⟩:=info_parts Tryz.infoEN
 obtain ⟨aoB,capB,rfl⟩:∃ao cap,vB= .slice ao B.length cap:=by
  rcases hB.form with ⟨rfl,rfl⟩|⟨g,cap,rfl,_⟩
  ·exact ⟨_,_,rfl⟩
  ·exact ⟨_,_,rfl⟩
 go_enter Tryz.func152,Tryz.ntmps152;go_wp2;refine wp_loop_rounds 2 ?_;rw [rounds_succ];go_wp2_with fail;rw [rounds_succ];go_wp2_with fail;refine (It p s sh _ hs ht).mono ?_;rintro e w1 ⟨v1,s1,sh1,rfl,hb1,ht1,z,rfl,h1,rfl,h01,hz⟩;by_cases hlen:z.size<n * 66
 ·go_wp2;go_ret2;exact ⟨_,[],_,s1,sh1,rfl,hb1,ht1,h1,⟨Or.inl ⟨rfl,rfl,rfl⟩,fun g hg=>(by cases hg)⟩,by simp,fun x hx=>by simp at hx⟩
 ·have hzb:z.size≤8796093022208:=by omega
  clear hz;skip;go_wp2_with fail;have HL:Hid (n * 66≤z.size):=by have h:=hlen;show _≤_;omega
  clear hlen;go_loopg [13,14] n (fun g v i wr=>∃(k:Nat) (L:List EN),g=n - k∧k≤n∧i= .int .i64 k∧L.length=k∧wr.ownsRow w.heap.size 183 3 v k (Av L)∧Aq wr p s1 sh1∧Ar p w wr∧∀x∈L,DZ B x)
  case atStart=>exact ⟨0,[],by omega,by omega,rfl,rfl,World.ownsRow_nil _ _ _ _,ht1,hb1,fun x hx=>by simp at hx⟩
  case round=>
   obtain ⟨k,L,hg,hk,rfl,hL,hown,ht2,hb2,hall⟩:=hrel;have hpw:p<wr.heap.size:=jN hp hb2.size;have hBw:=hB.but hb2 hBp;by_cases hlt:k<n
   ·have hkz:k * 66+66≤z.size:=by have hL':n * 66≤z.size:=HL.out;omega
    go_upto_region 15 with fail
    have hxz:(z.extract (k * 66) (k * 66+66)).size=66:=by have hL':n * 66≤z.size:=HL.out;simp;omega
    have hx01:=Bp h01 (k * 66) (k * 66+66);generalize z.extract (k * 66) (k * 66+66)=x at *;go_wp2_with fail;refine (Fe _ _ (by simp;omega) (Bp hx01 _ _)).mono ?_;rintro e w3 ⟨rfl,rfl⟩
    have hhi:Af (Ba (x.extract 0 32).data.toList):=by
     have:=Dn _ (Bp hx01 0 32) 32 (by simp;omega);exact ⟨this.1,by simpa using this.2⟩
    generalize Ba (x.extract 0 32).data.toList=hi' at *;go_wp2_with fail;refine (Fe _ _ (by simp;omega) (Bp hx01 _ _)).mono ?_;rintro e w4 ⟨rfl,rfl⟩
    have hlo:Af (Ba (x.extract 32 64).data.toList):=by
     have:=Dn _ (Bp hx01 32 64) 32 (by simp;omega);exact ⟨this.1,by simpa using this.2⟩
    generalize Ba (x.extract 32 64).data.toList=lo' at *;go_wp2_with fail;refine (Fe _ _ (by simp;omega) (Bp hx01 _ _)).mono ?_;rintro e w5 ⟨rfl,rfl⟩;have hk0:0≤Ba (x.extract 64 66).data.toList:=(Dn _ (Bp hx01 _ _) 2 (by simp;omega)).1;have hk9:Ba (x.extract 64 66).data.toList<2 ^ 2:=(Dn _ (Bp hx01 _ _) 2 (by simp;omega)).2;generalize Ba (x.extract 64 66).data.toList=kk at *;by_cases hkl:kk<(B.length:Int)
    ·obtain ⟨m,rfl⟩:=jM hk0;have hkl':m<B.length:=by omega
     obtain ⟨g,hao,hgc,hgl⟩:∃g,aoB=some ⟨g,0,none⟩∧wr.cell? ⟨g,m * 2,none⟩=some (.string B[m].1)∧g<wr.heap.size:=by
      rcases hBw.form with ⟨_,rfl⟩|⟨g,cap,hv,_,hgl,hc⟩
      ·simp at hkl'
      ·simp only [Value.slice.injEq] at hv;exact ⟨g,hv.1,(hc m hkl').1,hgl⟩
     subst hao;have hmem:∃b∈B,b.1=B[m].1:=⟨B[m],jJ hkl',rfl⟩;generalize B[m].1=idm at *;clear hk9;go_wp2_with (first|(at_builtin;refine wpList_append_own _ rfl _ _ 121 rfl w.heap.size 183 i0 (.agg #[.string ByteArray.empty,.int .i64 0,.int .i64 0]) 3 32 Tryz.underlying121 hi hz0 hz1 hz2 rfl (by decide) _ k (Av L) rfl ?o1 ⟨wr.heap.size+1,0,none⟩ 1 1 [.string idm,.int .i64 hi',.int .i64 lo'] rfl rfl ?c1 ?c2 ?c3 ?c4 ?c5 ?_))
     case o1=>exact (hown.alloc _).alloc _
     case c1=>exact FX _ _ _ _ _ _ (by simp)
     case c2=>intro u hu;simp at hu;rcases hu with rfl|rfl|rfl <;>rfl
     case c3=>unfold maxLen;omega
     case c4=>omega
     case c5=>have:=hb2.size;simp;omega
     intro v' w6 hown' hgrow _;have hlt4:=fun g hg=>(hown.lt g hg).1
     have hb6:Ar p w w6:=((hb2.alloc _).alloc _).grown hgrow hlt4;have ht6:Aq w6 p s1 sh1:=Ar.text w (Aq.later ht2 (by solve_by_elim [jA,jB,jC,jD,jE])) hgrow hlt4 hp;clear hgrow;go_wp2_with fail;go_roundg (n - (k+1))
     case measure=>omega
     case rel=>exact ⟨k+1,L++[(idm,hi',lo')],rfl,by omega,by go_num,by simp [hL],by rw [Gq];exact hown',ht6,hb6,fun x hx=>by rcases jT.1 hx with h1|h1;exact hall x h1;(simp at h1;subst h1;exact ⟨hmem,hhi,hlo⟩)⟩
    ·go_wp2;go_ret2;exact ⟨_,[],_,s1,sh1,rfl,hb2.alloc _,Aq.later ht2 (by solve_by_elim [jA,jB,jC,jD,jE]),h1,⟨Or.inl ⟨rfl,rfl,rfl⟩,fun g hg=>(by cases hg)⟩,by simp,fun x hx=>by simp at hx⟩
   ·have hown':=Ap.of_owns hown;rw [←hL] at hown';have hents:Dz w.heap.size wr _ L:=⟨hown',fun g hg=>(World.ownsRow.lt hown g hg).1⟩;clear hown hown';go_wp2;go_ret2;exact ⟨_,L,_,s1,_,rfl,hb2,ht2,h1,hents,by omega,hall⟩
theorem Wd (p:Nat) (n:Nat) (vB:Value) (B:List BK) (s:ByteArray) (sh:Bool) (w:World) (hs:s.size≤1099511627776) (ht:Aq w p s sh) (hp:p<w.heap.size) (hn:n≤65535) (hB:Am w vB B) (hBl:5≤B.length) (hB8:B.length≤8) (hBp:∀g,vB.ownBlock=some g→g≠p):
  Calls Tryz.prog 152 #[.pointer (some ⟨p,0,none⟩),.int .i64 n,.bool true,vB] w (GQ w p s B n):=by
 obtain ⟨i0,hi,hz0,hz1,hz2⟩:=info_parts Tryz.infoEN
 obtain ⟨aoB,capB,rfl⟩:∃ao cap,vB= .slice ao B.length cap:=by
  rcases hB.form with ⟨rfl,rfl⟩|⟨g,cap,rfl,_⟩
  ·exact ⟨_,_,rfl⟩
  ·exact ⟨_,_,rfl⟩
 go_enter Tryz.func152,Tryz.ntmps152;go_wp2;refine wp_loop_rounds 3 ?_;rw [rounds_succ];go_wp2_with fail;rw [rounds_succ];go_wp2_with fail;rw [rounds_succ];go_wp2_with fail;refine (It p s sh _ hs ht).mono ?_;rintro e w1 ⟨v1,s1,sh1,rfl,hb1,ht1,z,rfl,h1,rfl,h01,hz⟩;by_cases hlen:z.size<n * 67
 ·go_wp2;go_ret2;exact ⟨_,[],_,s1,sh1,rfl,hb1,ht1,h1,⟨Or.inl ⟨rfl,rfl,rfl⟩,fun g hg=>(by cases hg)⟩,by simp,fun x hx=>by simp at hx⟩
 ·have hzb:z.size≤8796093022208:=by omega
  clear hz;skip;go_wp2_with fail;have HL:Hid (n * 67≤z.size):=by have h:=hlen;show _≤_;omega
  clear hlen;go_loopg [13,14] n (fun g v i wr=>∃(k:Nat) (L:List EN),g=n - k∧k≤n∧i= .int .i64 k∧L.length=k∧wr.ownsRow w.heap.size 183 3 v k (Av L)∧Aq wr p s1 sh1∧Ar p w wr∧∀x∈L,DZ B x)
  case atStart=>exact ⟨0,[],by omega,by omega,rfl,rfl,World.ownsRow_nil _ _ _ _,ht1,hb1,fun x hx=>by simp at hx⟩
  case round=>
   obtain ⟨k,L,hg,hk,rfl,hL,hown,ht2,hb2,hall⟩:=hrel;have hpw:p<wr.heap.size:=jN hp hb2.size;have hBw:=hB.but hb2 hBp;by_cases hlt:k<n
   ·have hkz:k * 67+67≤z.size:=by have hL':n * 67≤z.size:=HL.out;omega
    go_upto_region 15 with fail
    have hxz:(z.extract (k * 67) (k * 67+67)).size=67:=by have hL':n * 67≤z.size:=HL.out;simp;omega
    have hx01:=Bp h01 (k * 67) (k * 67+67);generalize z.extract (k * 67) (k * 67+67)=x at *;go_wp2_with fail;refine (Fe _ _ (by simp;omega) (Bp hx01 _ _)).mono ?_;rintro e w3 ⟨rfl,rfl⟩
    have hhi:Af (Ba (x.extract 0 32).data.toList):=by
     have:=Dn _ (Bp hx01 0 32) 32 (by simp;omega);exact ⟨this.1,by simpa using this.2⟩
    generalize Ba (x.extract 0 32).data.toList=hi' at *;go_wp2_with fail;refine (Fe _ _ (by simp;omega) (Bp hx01 _ _)).mono ?_;rintro e w4 ⟨rfl,rfl⟩
    have hlo:Af (Ba (x.extract 32 64).data.toList):=by
     have:=Dn _ (Bp hx01 32 64) 32 (by simp;omega);exact ⟨this.1,by simpa using this.2⟩
    generalize Ba (x.extract 32 64).data.toList=lo' at *;go_wp2_with fail;refine (Fe _ _ (by simp;omega) (Bp hx01 _ _)).mono ?_;rintro e w5 ⟨rfl,rfl⟩;have hk0:0≤Ba (x.extract 64 67).data.toList:=(Dn _ (Bp hx01 _ _) 3 (by simp;omega)).1;have hk9:Ba (x.extract 64 67).data.toList<2 ^ 3:=(Dn _ (Bp hx01 _ _) 3 (by simp;omega)).2;generalize Ba (x.extract 64 67).data.toList=kk at *;by_cases hkl:kk<(B.length:Int)
    ·obtain ⟨m,rfl⟩:=jM hk0;have hkl':m<B.length:=by omega
     obtain ⟨g,hao,hgc,hgl⟩:∃g,aoB=some ⟨g,0,none⟩∧wr.cell? ⟨g,m * 2,none⟩=some (.string B[m].1)∧g<wr.heap.size:=by
      rcases hBw.form with ⟨_,rfl⟩|⟨g,cap,hv,_,hgl,hc⟩
      ·simp at hkl'
      ·simp only [Value.slice.injEq] at hv;exact ⟨g,hv.1,(hc m hkl').1,hgl⟩
     subst hao;have hmem:∃b∈B,b.1=B[m].1:=⟨B[m],jJ hkl',rfl⟩;generalize B[m].1=idm at *;clear hk9;go_wp2_with (first|(at_builtin;refine wpList_append_own _ rfl _ _ 121 rfl w.heap.size 183 i0 (.agg #[.string ByteArray.empty,.int .i64 0,.int .i64 0]) 3 32 Tryz.underlying121 hi hz0 hz1 hz2 rfl (by decide) _ k (Av L) rfl ?o1 ⟨wr.heap.size+1,0,none⟩ 1 1 [.string idm,.int .i64 hi',.int .i64 lo'] rfl rfl ?c1 ?c2 ?c3 ?c4 ?c5 ?_))
     case o1=>exact (hown.alloc _).alloc _
     case c1=>exact FX _ _ _ _ _ _ (by simp)
     case c2=>intro u hu;simp at hu;rcases hu with rfl|rfl|rfl <;>rfl
     case c3=>unfold maxLen;omega
     case c4=>omega
     case c5=>have:=hb2.size;simp;omega
     intro v' w6 hown' hgrow _;have hlt4:=fun g hg=>(hown.lt g hg).1
     have hb6:Ar p w w6:=((hb2.alloc _).alloc _).grown hgrow hlt4;have ht6:Aq w6 p s1 sh1:=Ar.text w (Aq.later ht2 (by solve_by_elim [jA,jB,jC,jD,jE])) hgrow hlt4 hp;clear hgrow;go_wp2_with fail;go_roundg (n - (k+1))
     case measure=>omega
     case rel=>exact ⟨k+1,L++[(idm,hi',lo')],rfl,by omega,by go_num,by simp [hL],by rw [Gq];exact hown',ht6,hb6,fun x hx=>by rcases jT.1 hx with h1|h1;exact hall x h1;(simp at h1;subst h1;exact ⟨hmem,hhi,hlo⟩)⟩
    ·go_wp2;go_ret2;exact ⟨_,[],_,s1,sh1,rfl,hb2.alloc _,Aq.later ht2 (by solve_by_elim [jA,jB,jC,jD,jE]),h1,⟨Or.inl ⟨rfl,rfl,rfl⟩,fun g hg=>(by cases hg)⟩,by simp,fun x hx=>by simp at hx⟩
   ·have hown':=Ap.of_owns hown;rw [←hL] at hown';have hents:Dz w.heap.size wr _ L:=⟨hown',fun g hg=>(World.ownsRow.lt hown g hg).1⟩;clear hown hown';go_wp2;go_ret2;exact ⟨_,L,_,s1,_,rfl,hb2,ht2,h1,hents,by omega,hall⟩
theorem Wa (p:Nat) (n:Nat) (pb:Bool) (vB:Value) (B:List BK) (s:ByteArray) (sh:Bool) (w:World) (hs:s.size≤1099511627776) (ht:Aq w p s sh) (hp:p<w.heap.size) (hn:n≤65535) (hB:Am w vB B) (hB8:B.length≤8) (hBp:∀g,vB.ownBlock=some g→g≠p):
  Calls Tryz.prog 152 #[.pointer (some ⟨p,0,none⟩),.int .i64 n,.bool pb,vB] w (GQ w p s B n):=by
 cases pb
 ·rcases (show B.length≤2∨(3≤B.length∧B.length≤4)∨5≤B.length by omega) with h|h|h
  ·exact Zl p n vB B s sh w hs ht hp hn hB (Nat.zero_le _) h hBp
  ·exact YX p n vB B s sh w hs ht hp hn hB h.1 h.2 hBp
  ·exact Rg p n vB B s sh w hs ht hp hn hB h hB8 hBp
 ·rcases (show B.length≤2∨(3≤B.length∧B.length≤4)∨5≤B.length by omega) with h|h|h
  ·exact YW p n vB B s sh w hs ht hp hn hB (Nat.zero_le _) h hBp
  ·exact RJ p n vB B s sh w hs ht hp hn hB h.1 h.2 hBp
  ·exact Wd p n vB B s sh w hs ht hp hn hB h hB8 hBp
end Go.Proofs.YtpapdkhjdelfcabGreat
