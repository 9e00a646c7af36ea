import Derived.Test.YtpapdkhjdelfcaaGreatLBB
namespace Go.Proofs.YtpapdkhjdelfcaaGreat
open Go.RowKit
set_option maxRecDepth 100000
set_option maxHeartbeats 4000000
theorem Bp {s:ByteArray} (h:Db s) (a b:Nat):Db (s.extract a b):=by
 intro i d;have c:a+i<s.size:=by simp at d;omega
 have:=h (a+i) c;simpa [ByteArray.getElem_extract] using this
theorem Dn (s:ByteArray) (h:Db s) (n:Nat) (a:s.size=n):0<=Ba s.data.toList/\Ba s.data.toList<2 ^ n:=by
 have:=Ok s h s.size (jH _);rw [jR js,a] at this;exact this
theorem Zl (p:Nat) (n:Nat) (N:Value) (B:List BK) (s:ByteArray) (sh:Bool) (w:World) (hs:s.size<=1099511627776) (ht:Aq w p s sh) (hp:p<w.heap.size) (hn:n<=65535) (hB:Am w N B) (ac:0<=B.length) (ad:B.length<=2) (O:∀g,N.ownBlock=some g->g≠p):
  Calls Tryz.prog 98 #[.pointer (some ⟨p,0,none⟩),.int .i64 n,.bool false,N] w (GQ w p s B n):=by
 obtain ⟨i0,hi,P,Q,R⟩:=info_parts Tryz.infoEN
 obtain ⟨S,ab,rfl⟩:∃ao cap,N= .slice ao B.length cap:=by
  rcases hB.form with ⟨rfl,rfl⟩|⟨g,cap,rfl,_⟩
  .exact ⟨_,_,rfl⟩
  .exact ⟨_,_,rfl⟩
 go_enter Tryz.func98,Tryz.ntmps98;go_wp2;refine wp_loop_rounds 1 ?_;rw [rounds_succ];go_wp2_with fail;refine (It p s sh _ hs ht).mono ?_;rintro e w1 ⟨v1,G,q,rfl,H,I,z,rfl,r,rfl,T,hz⟩;by_cases t:z.size<n * 1
 .go_wp2;go_ret2;exact ⟨_,[],_,G,q,rfl,H,I,r,⟨Or.inl ⟨rfl,rfl,rfl⟩,fun g y=>(by cases y)⟩,js,fun x D=>by simp at D⟩
 .have ae:z.size<=8796093022208:=jo
  clear hz;have af:decide (z.size<n)=false:=jx
  go_wp2_with fail;have HL:Hid (n * 1<=z.size):=by have h:=t;show _<=_;omega
  clear t;go_loopg [13,14] n (fun g v i wr=>∃(k:Nat) (L:List EN),g=n - k/\k<=n/\i= .int .i64 k/\L.length=k/\wr.ownsRow w.heap.size 146 3 v k (Av L)/\Aq wr p G q/\Ar p w wr/\∀x∈L,DZ B x)
  case atStart=>exact ⟨0,[],jo,jo,rfl,rfl,World.ownsRow_nil _ _ _ _,I,H,fun x D=>by simp at D⟩
  case round=>
   obtain ⟨k,L,y,hk,rfl,hL,c,E,f,A⟩:=hrel;have ag:p<wr.heap.size:=jN hp f.size;have U:=hB.but f O;by_cases ah:k<n
   .have ai:k * 1+1<=z.size:=by have V:n * 1<=z.size:=HL.out;omega
    go_upto_region 15 with fail
    have aj:(z.extract k (k+1)).size=1:=by have V:n * 1<=z.size:=HL.out;simp;omega
    have l:=Bp T k (k+1);generalize z.extract k (k+1)=x at *;go_wp2_with fail;refine (Fe _ _ jx (Bp l _ _)).mono ?_;rintro e w5 ⟨rfl,rfl⟩;have W:0<=Ba (x.extract 0 1).data.toList:=(Dn _ (Bp l _ _) 1 jx).1;have X:Ba (x.extract 0 1).data.toList<2 ^ 1:=(Dn _ (Bp l _ _) 1 jx).2;generalize Ba (x.extract 0 1).data.toList=kk at *;by_cases ak:kk<(B.length:Int)
    .obtain ⟨m,rfl⟩:=jM W;have o:m<B.length:=jo
     obtain ⟨g,Y,al,J⟩:∃g,S=some ⟨g,0,none⟩/\wr.cell? ⟨g,m * 2,none⟩=some (.string B[m].1)/\g<wr.heap.size:=by
      rcases U.form with ⟨_,rfl⟩|⟨g,cap,hv,_,J,hc⟩
      .simp at o
      .simp only [Value.slice.injEq] at hv;exact ⟨g,hv.1,(hc m o).1,J⟩
     subst Y;have K:∃b∈B,b.1=B[m].1:=⟨B[m],jJ o,rfl⟩;generalize B[m].1=M at *;clear X;go_wp2_with (first|(at_builtin;refine wpList_append_own _ rfl _ _ 83 rfl w.heap.size 146 i0 (.agg #[.string ByteArray.empty,.int .i64 0,.int .i64 0]) 3 32 Tryz.underlying83 hi P Q R rfl ji _ k (Av L) rfl ?o1 ⟨wr.heap.size+1,0,none⟩ 1 1 [.string M,.int .i64 0,.int .i64 0] rfl rfl ?c1 ?c2 ?c3 ?c4 ?c5 ?_))
     case o1=>exact (c.alloc _).alloc _
     case c1=>exact FX _ _ _ _ _ _ js
     case c2=>intro u hu;simp at hu;rcases hu with rfl|rfl|rfl <;>rfl
     case c3=>unfold maxLen;omega
     case c4=>omega
     case c5=>have:=f.size;simp;omega
     intro v' w6 a d _;have C:=fun g y=>(c.lt g y).1
     have Z:Ar p w w6:=((f.alloc _).alloc _).grown d C;have aa:Aq w6 p G q:=Ar.text w (Aq.later E jq) d C hp;clear d;go_wp2_with fail;go_roundg (n - (k+1))
     case measure=>omega
     case rel=>exact ⟨k+1,L++[(M,0,0)],rfl,jo,by go_num,by simp [hL],by rw [Gq];exact a,aa,Z,fun x D=>by rcases jT.1 D with r|r;exact A x r;(simp at r;subst r;exact ⟨K,Cd,Cd⟩)⟩
    .go_wp2;go_ret2;exact ⟨_,[],_,G,q,rfl,f.alloc _,Aq.later E jq,r,⟨Or.inl ⟨rfl,rfl,rfl⟩,fun g y=>(by cases y)⟩,js,fun x D=>by simp at D⟩
   .have a:=Ap.of_owns c;rw [<-hL] at a;have F:Dz w.heap.size wr _ L:=⟨a,fun g y=>(World.ownsRow.lt c g y).1⟩;clear c a;go_wp2;go_ret2;exact ⟨_,L,_,G,_,rfl,f,E,r,F,jo,A⟩
theorem YX (p:Nat) (n:Nat) (N:Value) (B:List BK) (s:ByteArray) (sh:Bool) (w:World) (hs:s.size<=1099511627776) (ht:Aq w p s sh) (hp:p<w.heap.size) (hn:n<=65535) (hB:Am w N B) (ac:3<=B.length) (ad:B.length<=4) (O:∀g,N.ownBlock=some g->g≠p):
  Calls Tryz.prog 98 #[.pointer (some ⟨p,0,none⟩),.int .i64 n,.bool false,N] w (GQ w p s B n):=by
 obtain ⟨i0,hi,P,Q,R⟩:=info_parts Tryz.infoEN
 obtain ⟨S,ab,rfl⟩:∃ao cap,N= .slice ao B.length cap:=by
  rcases hB.form with ⟨rfl,rfl⟩|⟨g,cap,rfl,_⟩
  .exact ⟨_,_,rfl⟩
  .exact ⟨_,_,rfl⟩
 go_enter Tryz.func98,Tryz.ntmps98;go_wp2;refine wp_loop_rounds 2 ?_;rw [rounds_succ];go_wp2_with fail;rw [rounds_succ];go_wp2_with fail;refine (It p s sh _ hs ht).mono ?_;rintro e w1 ⟨v1,G,q,rfl,H,I,z,rfl,r,rfl,T,hz⟩;by_cases t:z.size<n * 2
 .go_wp2;go_ret2;exact ⟨_,[],_,G,q,rfl,H,I,r,⟨Or.inl ⟨rfl,rfl,rfl⟩,fun g y=>(by cases y)⟩,js,fun x D=>by simp at D⟩
 .have ae:z.size<=8796093022208:=jo
  clear hz;skip;go_wp2_with fail;have HL:Hid (n * 2<=z.size):=by have h:=t;show _<=_;omega
  clear t;go_loopg [13,14] n (fun g v i wr=>∃(k:Nat) (L:List EN),g=n - k/\k<=n/\i= .int .i64 k/\L.length=k/\wr.ownsRow w.heap.size 146 3 v k (Av L)/\Aq wr p G q/\Ar p w wr/\∀x∈L,DZ B x)
  case atStart=>exact ⟨0,[],jo,jo,rfl,rfl,World.ownsRow_nil _ _ _ _,I,H,fun x D=>by simp at D⟩
  case round=>
   obtain ⟨k,L,y,hk,rfl,hL,c,E,f,A⟩:=hrel;have af:p<wr.heap.size:=jN hp f.size;have U:=hB.but f O;by_cases ag:k<n
   .have ah:k * 2+2<=z.size:=by have V:n * 2<=z.size:=HL.out;omega
    go_upto_region 15 with fail
    have ai:(z.extract (k * 2) (k * 2+2)).size=2:=by have V:n * 2<=z.size:=HL.out;simp;omega
    have l:=Bp T (k * 2) (k * 2+2);generalize z.extract (k * 2) (k * 2+2)=x at *;go_wp2_with fail;refine (Fe _ _ jx (Bp l _ _)).mono ?_;rintro e w5 ⟨rfl,rfl⟩;have W:0<=Ba (x.extract 0 2).data.toList:=(Dn _ (Bp l _ _) 2 jx).1;have X:Ba (x.extract 0 2).data.toList<2 ^ 2:=(Dn _ (Bp l _ _) 2 jx).2;generalize Ba (x.extract 0 2).data.toList=kk at *;by_cases aj:kk<(B.length:Int)
    .obtain ⟨m,rfl⟩:=jM W;have o:m<B.length:=jo
     obtain ⟨g,Y,ak,J⟩:∃g,S=some ⟨g,0,none⟩/\wr.cell? ⟨g,m * 2,none⟩=some (.string B[m].1)/\g<wr.heap.size:=by
      rcases U.form with ⟨_,rfl⟩|⟨g,cap,hv,_,J,hc⟩
      .simp at o
      .simp only [Value.slice.injEq] at hv;exact ⟨g,hv.1,(hc m o).1,J⟩
     subst Y;have K:∃b∈B,b.1=B[m].1:=⟨B[m],jJ o,rfl⟩;generalize B[m].1=M at *;clear X;go_wp2_with (first|(at_builtin;refine wpList_append_own _ rfl _ _ 83 rfl w.heap.size 146 i0 (.agg #[.string ByteArray.empty,.int .i64 0,.int .i64 0]) 3 32 Tryz.underlying83 hi P Q R rfl ji _ k (Av L) rfl ?o1 ⟨wr.heap.size+1,0,none⟩ 1 1 [.string M,.int .i64 0,.int .i64 0] rfl rfl ?c1 ?c2 ?c3 ?c4 ?c5 ?_))
     case o1=>exact (c.alloc _).alloc _
     case c1=>exact FX _ _ _ _ _ _ js
     case c2=>intro u hu;simp at hu;rcases hu with rfl|rfl|rfl <;>rfl
     case c3=>unfold maxLen;omega
     case c4=>omega
     case c5=>have:=f.size;simp;omega
     intro v' w6 a d _;have C:=fun g y=>(c.lt g y).1
     have Z:Ar p w w6:=((f.alloc _).alloc _).grown d C;have aa:Aq w6 p G q:=Ar.text w (Aq.later E jq) d C hp;clear d;go_wp2_with fail;go_roundg (n - (k+1))
     case measure=>omega
     case rel=>exact ⟨k+1,L++[(M,0,0)],rfl,jo,by go_num,by simp [hL],by rw [Gq];exact a,aa,Z,fun x D=>by rcases jT.1 D with r|r;exact A x r;(simp at r;subst r;exact ⟨K,Cd,Cd⟩)⟩
    .go_wp2;go_ret2;exact ⟨_,[],_,G,q,rfl,f.alloc _,Aq.later E jq,r,⟨Or.inl ⟨rfl,rfl,rfl⟩,fun g y=>(by cases y)⟩,js,fun x D=>by simp at D⟩
   .have a:=Ap.of_owns c;rw [<-hL] at a;have F:Dz w.heap.size wr _ L:=⟨a,fun g y=>(World.ownsRow.lt c g y).1⟩;clear c a;go_wp2;go_ret2;exact ⟨_,L,_,G,_,rfl,f,E,r,F,jo,A⟩
theorem Rg (p:Nat) (n:Nat) (N:Value) (B:List BK) (s:ByteArray) (sh:Bool) (w:World) (hs:s.size<=1099511627776) (ht:Aq w p s sh) (hp:p<w.heap.size) (hn:n<=65535) (hB:Am w N B) (ac:5<=B.length) (ad:B.length<=8) (O:∀g,N.ownBlock=some g->g≠p):
  Calls Tryz.prog 98 #[.pointer (some ⟨p,0,none⟩),.int .i64 n,.bool false,N] w (GQ w p s B n):=by
 obtain ⟨i0,hi,P,Q,R⟩:=info_parts Tryz.infoEN
 obtain ⟨S,ab,rfl⟩:∃ao cap,N= .slice ao B.length cap:=by
  rcases hB.form with ⟨rfl,rfl⟩|⟨g,cap,rfl,_⟩
  .exact ⟨_,_,rfl⟩
  .exact ⟨_,_,rfl⟩
 go_enter Tryz.func98,Tryz.ntmps98;go_wp2;refine wp_loop_rounds 3 ?_;rw [rounds_succ];go_wp2_with fail;rw [rounds_succ];go_wp2_with fail;rw [rounds_succ];go_wp2_with fail;refine (It p s sh _ hs ht).mono ?_;rintro e w1 ⟨v1,G,q,rfl,H,I,z,rfl,r,rfl,T,hz⟩;by_cases t:z.size<n * 3
 .go_wp2;go_ret2;exact ⟨_,[],_,G,q,rfl,H,I,r,⟨Or.inl ⟨rfl,rfl,rfl⟩,fun g y=>(by cases y)⟩,js,fun x D=>by simp at D⟩
 .have ae:z.size<=8796093022208:=jo
  clear hz;skip;go_wp2_with fail;have HL:Hid (n * 3<=z.size):=by have h:=t;show _<=_;omega
  clear t;go_loopg [13,14] n (fun g v i wr=>∃(k:Nat) (L:List EN),g=n - k/\k<=n/\i= .int .i64 k/\L.length=k/\wr.ownsRow w.heap.size 146 3 v k (Av L)/\Aq wr p G q/\Ar p w wr/\∀x∈L,DZ B x)
  case atStart=>exact ⟨0,[],jo,jo,rfl,rfl,World.ownsRow_nil _ _ _ _,I,H,fun x D=>by simp at D⟩
  case round=>
   obtain ⟨k,L,y,hk,rfl,hL,c,E,f,A⟩:=hrel;have af:p<wr.heap.size:=jN hp f.size;have U:=hB.but f O;by_cases ag:k<n
   .have ah:k * 3+3<=z.size:=by have V:n * 3<=z.size:=HL.out;omega
    go_upto_region 15 with fail
    have ai:(z.extract (k * 3) (k * 3+3)).size=3:=by have V:n * 3<=z.size:=HL.out;simp;omega
    have l:=Bp T (k * 3) (k * 3+3);generalize z.extract (k * 3) (k * 3+3)=x at *;go_wp2_with fail;refine (Fe _ _ jx (Bp l _ _)).mono ?_;rintro e w5 ⟨rfl,rfl⟩;have W:0<=Ba (x.extract 0 3).data.toList:=(Dn _ (Bp l _ _) 3 jx).1;have X:Ba (x.extract 0 3).data.toList<2 ^ 3:=(Dn _ (Bp l _ _) 3 jx).2;generalize Ba (x.extract 0 3).data.toList=kk at *;by_cases aj:kk<(B.length:Int)
    .obtain ⟨m,rfl⟩:=jM W;have o:m<B.length:=jo
     obtain ⟨g,Y,ak,J⟩:∃g,S=some ⟨g,0,none⟩/\wr.cell? ⟨g,m * 2,none⟩=some (.string B[m].1)/\g<wr.heap.size:=by
      rcases U.form with ⟨_,rfl⟩|⟨g,cap,hv,_,J,hc⟩
      .simp at o
      .simp only [Value.slice.injEq] at hv;exact ⟨g,hv.1,(hc m o).1,J⟩
     subst Y;have K:∃b∈B,b.1=B[m].1:=⟨B[m],jJ o,rfl⟩;generalize B[m].1=M at *;clear X;go_wp2_with (first|(at_builtin;refine wpList_append_own _ rfl _ _ 83 rfl w.heap.size 146 i0 (.agg #[.string ByteArray.empty,.int .i64 0,.int .i64 0]) 3 32 Tryz.underlying83 hi P Q R rfl ji _ k (Av L) rfl ?o1 ⟨wr.heap.size+1,0,none⟩ 1 1 [.string M,.int .i64 0,.int .i64 0] rfl rfl ?c1 ?c2 ?c3 ?c4 ?c5 ?_))
     case o1=>exact (c.alloc _).alloc _
     case c1=>exact FX _ _ _ _ _ _ js
     case c2=>intro u hu;simp at hu;rcases hu with rfl|rfl|rfl <;>rfl
     case c3=>unfold maxLen;omega
     case c4=>omega
     case c5=>have:=f.size;simp;omega
     intro v' w6 a d _;have C:=fun g y=>(c.lt g y).1
     have Z:Ar p w w6:=((f.alloc _).alloc _).grown d C;have aa:Aq w6 p G q:=Ar.text w (Aq.later E jq) d C hp;clear d;go_wp2_with fail;go_roundg (n - (k+1))
     case measure=>omega
     case rel=>exact ⟨k+1,L++[(M,0,0)],rfl,jo,by go_num,by simp [hL],by rw [Gq];exact a,aa,Z,fun x D=>by rcases jT.1 D with r|r;exact A x r;(simp at r;subst r;exact ⟨K,Cd,Cd⟩)⟩
    .go_wp2;go_ret2;exact ⟨_,[],_,G,q,rfl,f.alloc _,Aq.later E jq,r,⟨Or.inl ⟨rfl,rfl,rfl⟩,fun g y=>(by cases y)⟩,js,fun x D=>by simp at D⟩
   .have a:=Ap.of_owns c;rw [<-hL] at a;have F:Dz w.heap.size wr _ L:=⟨a,fun g y=>(World.ownsRow.lt c g y).1⟩;clear c a;go_wp2;go_ret2;exact ⟨_,L,_,G,_,rfl,f,E,r,F,jo,A⟩
theorem YW (p:Nat) (n:Nat) (P:Value) (B:List BK) (s:ByteArray) (sh:Bool) (w:World) (hs:s.size<=1099511627776) (ht:Aq w p s sh) (hp:p<w.heap.size) (hn:n<=65535) (hB:Am w P B) (ag:0<=B.length) (ah:B.length<=2) (Q:∀g,P.ownBlock=some g->g≠p):
  Calls Tryz.prog 98 #[.pointer (some ⟨p,0,none⟩),.int .i64 n,.bool true,P] w (GQ w p s B n):=by
 obtain ⟨i0,hi,R,S,T⟩:=info_parts Tryz.infoEN
 obtain ⟨U,af,rfl⟩:∃ao cap,P= .slice ao B.length cap:=by
  rcases hB.form with ⟨rfl,rfl⟩|⟨g,cap,rfl,_⟩
  .exact ⟨_,_,rfl⟩
  .exact ⟨_,_,rfl⟩
 go_enter Tryz.func98,Tryz.ntmps98;go_wp2;refine wp_loop_rounds 1 ?_;rw [rounds_succ];go_wp2_with fail;refine (It p s sh _ hs ht).mono ?_;rintro e w1 ⟨v1,G,q,rfl,H,I,z,rfl,r,rfl,V,hz⟩;by_cases t:z.size<n * 65
 .go_wp2;go_ret2;exact ⟨_,[],_,G,q,rfl,H,I,r,⟨Or.inl ⟨rfl,rfl,rfl⟩,fun g y=>(by cases y)⟩,js,fun x D=>by simp at D⟩
 .have ai:z.size<=8796093022208:=jo
  clear hz;skip;go_wp2_with fail;have HL:Hid (n * 65<=z.size):=by have h:=t;show _<=_;omega
  clear t;go_loopg [13,14] n (fun g v i wr=>∃(k:Nat) (L:List EN),g=n - k/\k<=n/\i= .int .i64 k/\L.length=k/\wr.ownsRow w.heap.size 146 3 v k (Av L)/\Aq wr p G q/\Ar p w wr/\∀x∈L,DZ B x)
  case atStart=>exact ⟨0,[],jo,jo,rfl,rfl,World.ownsRow_nil _ _ _ _,I,H,fun x D=>by simp at D⟩
  case round=>
   obtain ⟨k,L,y,hk,rfl,hL,d,E,l,A⟩:=hrel;have aj:p<wr.heap.size:=jN hp l.size;have W:=hB.but l Q;by_cases ak:k<n
   .have al:k * 65+65<=z.size:=by have X:n * 65<=z.size:=HL.out;omega
    go_upto_region 15 with fail
    have am:(z.extract (k * 65) (k * 65+65)).size=65:=by have X:n * 65<=z.size:=HL.out;simp;omega
    have a:=Bp V (k * 65) (k * 65+65);generalize z.extract (k * 65) (k * 65+65)=x at *;go_wp2_with fail;refine (Fe _ _ jx (Bp a _ _)).mono ?_;rintro e w3 ⟨rfl,rfl⟩
    have Y:Af (Ba (x.extract 0 32).data.toList):=by
     have:=Dn _ (Bp a 0 32) 32 jx;exact ⟨this.1,by simpa using this.2⟩
    generalize Ba (x.extract 0 32).data.toList=J at *;go_wp2_with fail;refine (Fe _ _ jx (Bp a _ _)).mono ?_;rintro e w4 ⟨rfl,rfl⟩
    have Z:Af (Ba (x.extract 32 64).data.toList):=by
     have:=Dn _ (Bp a 32 64) 32 jx;exact ⟨this.1,by simpa using this.2⟩
    generalize Ba (x.extract 32 64).data.toList=K at *;go_wp2_with fail;refine (Fe _ _ jx (Bp a _ _)).mono ?_;rintro e w5 ⟨rfl,rfl⟩;have aa:0<=Ba (x.extract 64 65).data.toList:=(Dn _ (Bp a _ _) 1 jx).1;have ab:Ba (x.extract 64 65).data.toList<2 ^ 1:=(Dn _ (Bp a _ _) 1 jx).2;generalize Ba (x.extract 64 65).data.toList=kk at *;by_cases an:kk<(B.length:Int)
    .obtain ⟨m,rfl⟩:=jM aa;have o:m<B.length:=jo
     obtain ⟨g,ac,ap,M⟩:∃g,U=some ⟨g,0,none⟩/\wr.cell? ⟨g,m * 2,none⟩=some (.string B[m].1)/\g<wr.heap.size:=by
      rcases W.form with ⟨_,rfl⟩|⟨g,cap,hv,_,M,hc⟩
      .simp at o
      .simp only [Value.slice.injEq] at hv;exact ⟨g,hv.1,(hc m o).1,M⟩
     subst ac;have N:∃b∈B,b.1=B[m].1:=⟨B[m],jJ o,rfl⟩;generalize B[m].1=O at *;clear ab;go_wp2_with (first|(at_builtin;refine wpList_append_own _ rfl _ _ 83 rfl w.heap.size 146 i0 (.agg #[.string ByteArray.empty,.int .i64 0,.int .i64 0]) 3 32 Tryz.underlying83 hi R S T rfl ji _ k (Av L) rfl ?o1 ⟨wr.heap.size+1,0,none⟩ 1 1 [.string O,.int .i64 J,.int .i64 K] rfl rfl ?c1 ?c2 ?c3 ?c4 ?c5 ?_))
     case o1=>exact (d.alloc _).alloc _
     case c1=>exact FX _ _ _ _ _ _ js
     case c2=>intro u hu;simp at hu;rcases hu with rfl|rfl|rfl <;>rfl
     case c3=>unfold maxLen;omega
     case c4=>omega
     case c5=>have:=l.size;simp;omega
     intro v' w6 c f _;have C:=fun g y=>(d.lt g y).1
     have ad:Ar p w w6:=((l.alloc _).alloc _).grown f C;have ae:Aq w6 p G q:=Ar.text w (Aq.later E jq) f C hp;clear f;go_wp2_with fail;go_roundg (n - (k+1))
     case measure=>omega
     case rel=>exact ⟨k+1,L++[(O,J,K)],rfl,jo,by go_num,by simp [hL],by rw [Gq];exact c,ae,ad,fun x D=>by rcases jT.1 D with r|r;exact A x r;(simp at r;subst r;exact ⟨N,Y,Z⟩)⟩
    .go_wp2;go_ret2;exact ⟨_,[],_,G,q,rfl,l.alloc _,Aq.later E jq,r,⟨Or.inl ⟨rfl,rfl,rfl⟩,fun g y=>(by cases y)⟩,js,fun x D=>by simp at D⟩
   .have c:=Ap.of_owns d;rw [<-hL] at c;have F:Dz w.heap.size wr _ L:=⟨c,fun g y=>(World.ownsRow.lt d g y).1⟩;clear d c;go_wp2;go_ret2;exact ⟨_,L,_,G,_,rfl,l,E,r,F,jo,A⟩
theorem RJ (p:Nat) (n:Nat) (P:Value) (B:List BK) (s:ByteArray) (sh:Bool) (w:World) (hs:s.size<=1099511627776) (ht:Aq w p s sh) (hp:p<w.heap.size) (hn:n<=65535) (hB:Am w P B) (ag:3<=B.length) (ah:B.length<=4) (Q:∀g,P.ownBlock=some g->g≠p):
  Calls Tryz.prog 98 #[.pointer (some ⟨p,0,none⟩),.int .i64 n,.bool true,P] w (GQ w p s B n):=by
 obtain ⟨i0,hi,R,S,T⟩:=info_parts Tryz.infoEN
 obtain ⟨U,af,rfl⟩:∃ao cap,P= .slice ao B.length cap:=by
  rcases hB.form with ⟨rfl,rfl⟩|⟨g,cap,rfl,_⟩
  .exact ⟨_,_,rfl⟩
  .exact ⟨_,_,rfl⟩
 go_enter Tryz.func98,Tryz.ntmps98;go_wp2;refine wp_loop_rounds 2 ?_;rw [rounds_succ];go_wp2_with fail;rw [rounds_succ];go_wp2_with fail;refine (It p s sh _ hs ht).mono ?_;rintro e w1 ⟨v1,G,q,rfl,H,I,z,rfl,r,rfl,V,hz⟩;by_cases t:z.size<n * 66
 .go_wp2;go_ret2;exact ⟨_,[],_,G,q,rfl,H,I,r,⟨Or.inl ⟨rfl,rfl,rfl⟩,fun g y=>(by cases y)⟩,js,fun x D=>by simp at D⟩
 .have ai:z.size<=8796093022208:=jo
  clear hz;skip;go_wp2_with fail;have HL:Hid (n * 66<=z.size):=by have h:=t;show _<=_;omega
  clear t;go_loopg [13,14] n (fun g v i wr=>∃(k:Nat) (L:List EN),g=n - k/\k<=n/\i= .int .i64 k/\L.length=k/\wr.ownsRow w.heap.size 146 3 v k (Av L)/\Aq wr p G q/\Ar p w wr/\∀x∈L,DZ B x)
  case atStart=>exact ⟨0,[],jo,jo,rfl,rfl,World.ownsRow_nil _ _ _ _,I,H,fun x D=>by simp at D⟩
  case round=>
   obtain ⟨k,L,y,hk,rfl,hL,d,E,l,A⟩:=hrel;have aj:p<wr.heap.size:=jN hp l.size;have W:=hB.but l Q;by_cases ak:k<n
   .have al:k * 66+66<=z.size:=by have X:n * 66<=z.size:=HL.out;omega
    go_upto_region 15 with fail
    have am:(z.extract (k * 66) (k * 66+66)).size=66:=by have X:n * 66<=z.size:=HL.out;simp;omega
    have a:=Bp V (k * 66) (k * 66+66);generalize z.extract (k * 66) (k * 66+66)=x at *;go_wp2_with fail;refine (Fe _ _ jx (Bp a _ _)).mono ?_;rintro e w3 ⟨rfl,rfl⟩
    have Y:Af (Ba (x.extract 0 32).data.toList):=by
     have:=Dn _ (Bp a 0 32) 32 jx;exact ⟨this.1,by simpa using this.2⟩
    generalize Ba (x.extract 0 32).data.toList=J at *;go_wp2_with fail;refine (Fe _ _ jx (Bp a _ _)).mono ?_;rintro e w4 ⟨rfl,rfl⟩
    have Z:Af (Ba (x.extract 32 64).data.toList):=by
     have:=Dn _ (Bp a 32 64) 32 jx;exact ⟨this.1,by simpa using this.2⟩
    generalize Ba (x.extract 32 64).data.toList=K at *;go_wp2_with fail;refine (Fe _ _ jx (Bp a _ _)).mono ?_;rintro e w5 ⟨rfl,rfl⟩;have aa:0<=Ba (x.extract 64 66).data.toList:=(Dn _ (Bp a _ _) 2 jx).1;have ab:Ba (x.extract 64 66).data.toList<2 ^ 2:=(Dn _ (Bp a _ _) 2 jx).2;generalize Ba (x.extract 64 66).data.toList=kk at *;by_cases an:kk<(B.length:Int)
    .obtain ⟨m,rfl⟩:=jM aa;have o:m<B.length:=jo
     obtain ⟨g,ac,ap,M⟩:∃g,U=some ⟨g,0,none⟩/\wr.cell? ⟨g,m * 2,none⟩=some (.string B[m].1)/\g<wr.heap.size:=by
      rcases W.form with ⟨_,rfl⟩|⟨g,cap,hv,_,M,hc⟩
      .simp at o
      .simp only [Value.slice.injEq] at hv;exact ⟨g,hv.1,(hc m o).1,M⟩
     subst ac;have N:∃b∈B,b.1=B[m].1:=⟨B[m],jJ o,rfl⟩;generalize B[m].1=O at *;clear ab;go_wp2_with (first|(at_builtin;refine wpList_append_own _ rfl _ _ 83 rfl w.heap.size 146 i0 (.agg #[.string ByteArray.empty,.int .i64 0,.int .i64 0]) 3 32 Tryz.underlying83 hi R S T rfl ji _ k (Av L) rfl ?o1 ⟨wr.heap.size+1,0,none⟩ 1 1 [.string O,.int .i64 J,.int .i64 K] rfl rfl ?c1 ?c2 ?c3 ?c4 ?c5 ?_))
     case o1=>exact (d.alloc _).alloc _
     case c1=>exact FX _ _ _ _ _ _ js
     case c2=>intro u hu;simp at hu;rcases hu with rfl|rfl|rfl <;>rfl
     case c3=>unfold maxLen;omega
     case c4=>omega
     case c5=>have:=l.size;simp;omega
     intro v' w6 c f _;have C:=fun g y=>(d.lt g y).1
     have ad:Ar p w w6:=((l.alloc _).alloc _).grown f C;have ae:Aq w6 p G q:=Ar.text w (Aq.later E jq) f C hp;clear f;go_wp2_with fail;go_roundg (n - (k+1))
     case measure=>omega
     case rel=>exact ⟨k+1,L++[(O,J,K)],rfl,jo,by go_num,by simp [hL],by rw [Gq];exact c,ae,ad,fun x D=>by rcases jT.1 D with r|r;exact A x r;(simp at r;subst r;exact ⟨N,Y,Z⟩)⟩
    .go_wp2;go_ret2;exact ⟨_,[],_,G,q,rfl,l.alloc _,Aq.later E jq,r,⟨Or.inl ⟨rfl,rfl,rfl⟩,fun g y=>(by cases y)⟩,js,fun x D=>by simp at D⟩
   .have c:=Ap.of_owns d;rw [<-hL] at c;have F:Dz w.heap.size wr _ L:=⟨c,fun g y=>(World.ownsRow.lt d g y).1⟩;clear d c;go_wp2;go_ret2;exact ⟨_,L,_,G,_,rfl,l,E,r,F,jo,A⟩
theorem Wd (p:Nat) (n:Nat) (P:Value) (B:List BK) (s:ByteArray) (sh:Bool) (w:World) (hs:s.size<=1099511627776) (ht:Aq w p s sh) (hp:p<w.heap.size) (hn:n<=65535) (hB:Am w P B) (ag:5<=B.length) (ah:B.length<=8) (Q:∀g,P.ownBlock=some g->g≠p):
  Calls Tryz.prog 98 #[.pointer (some ⟨p,0,none⟩),.int .i64 n,.bool true,P] w (GQ w p s B n):=by
 obtain ⟨i0,hi,R,S,T⟩:=info_parts Tryz.infoEN
 obtain ⟨U,af,rfl⟩:∃ao cap,P= .slice ao B.length cap:=by
  rcases hB.form with ⟨rfl,rfl⟩|⟨g,cap,rfl,_⟩
  .exact ⟨_,_,rfl⟩
  .exact ⟨_,_,rfl⟩
 go_enter Tryz.func98,Tryz.ntmps98;go_wp2;refine wp_loop_rounds 3 ?_;rw [rounds_succ];go_wp2_with fail;rw [rounds_succ];go_wp2_with fail;rw [rounds_succ];go_wp2_with fail;refine (It p s sh _ hs ht).mono ?_;rintro e w1 ⟨v1,G,q,rfl,H,I,z,rfl,r,rfl,V,hz⟩;by_cases t:z.size<n * 67
 .go_wp2;go_ret2;exact ⟨_,[],_,G,q,rfl,H,I,r,⟨Or.inl ⟨rfl,rfl,rfl⟩,fun g y=>(by cases y)⟩,js,fun x D=>by simp at D⟩
 .have ai:z.size<=8796093022208:=jo
  clear hz;skip;go_wp2_with fail;have HL:Hid (n * 67<=z.size):=by have h:=t;show _<=_;omega
  clear t;go_loopg [13,14] n (fun g v i wr=>∃(k:Nat) (L:List EN),g=n - k/\k<=n/\i= .int .i64 k/\L.length=k/\wr.ownsRow w.heap.size 146 3 v k (Av L)/\Aq wr p G q/\Ar p w wr/\∀x∈L,DZ B x)
  case atStart=>exact ⟨0,[],jo,jo,rfl,rfl,World.ownsRow_nil _ _ _ _,I,H,fun x D=>by simp at D⟩
  case round=>
   obtain ⟨k,L,y,hk,rfl,hL,d,E,l,A⟩:=hrel;have aj:p<wr.heap.size:=jN hp l.size;have W:=hB.but l Q;by_cases ak:k<n
   .have al:k * 67+67<=z.size:=by have X:n * 67<=z.size:=HL.out;omega
    go_upto_region 15 with fail
    have am:(z.extract (k * 67) (k * 67+67)).size=67:=by have X:n * 67<=z.size:=HL.out;simp;omega
    have a:=Bp V (k * 67) (k * 67+67);generalize z.extract (k * 67) (k * 67+67)=x at *;go_wp2_with fail;refine (Fe _ _ jx (Bp a _ _)).mono ?_;rintro e w3 ⟨rfl,rfl⟩
    have Y:Af (Ba (x.extract 0 32).data.toList):=by
     have:=Dn _ (Bp a 0 32) 32 jx;exact ⟨this.1,by simpa using this.2⟩
    generalize Ba (x.extract 0 32).data.toList=J at *;go_wp2_with fail;refine (Fe _ _ jx (Bp a _ _)).mono ?_;rintro e w4 ⟨rfl,rfl⟩
    have Z:Af (Ba (x.extract 32 64).data.toList):=by
     have:=Dn _ (Bp a 32 64) 32 jx;exact ⟨this.1,by simpa using this.2⟩
    generalize Ba (x.extract 32 64).data.toList=K at *;go_wp2_with fail;refine (Fe _ _ jx (Bp a _ _)).mono ?_;rintro e w5 ⟨rfl,rfl⟩;have aa:0<=Ba (x.extract 64 67).data.toList:=(Dn _ (Bp a _ _) 3 jx).1;have ab:Ba (x.extract 64 67).data.toList<2 ^ 3:=(Dn _ (Bp a _ _) 3 jx).2;generalize Ba (x.extract 64 67).data.toList=kk at *;by_cases an:kk<(B.length:Int)
    .obtain ⟨m,rfl⟩:=jM aa;have o:m<B.length:=jo
     obtain ⟨g,ac,ap,M⟩:∃g,U=some ⟨g,0,none⟩/\wr.cell? ⟨g,m * 2,none⟩=some (.string B[m].1)/\g<wr.heap.size:=by
      rcases W.form with ⟨_,rfl⟩|⟨g,cap,hv,_,M,hc⟩
      .simp at o
      .simp only [Value.slice.injEq] at hv;exact ⟨g,hv.1,(hc m o).1,M⟩
     subst ac;have N:∃b∈B,b.1=B[m].1:=⟨B[m],jJ o,rfl⟩;generalize B[m].1=O at *;clear ab;go_wp2_with (first|(at_builtin;refine wpList_append_own _ rfl _ _ 83 rfl w.heap.size 146 i0 (.agg #[.string ByteArray.empty,.int .i64 0,.int .i64 0]) 3 32 Tryz.underlying83 hi R S T rfl ji _ k (Av L) rfl ?o1 ⟨wr.heap.size+1,0,none⟩ 1 1 [.string O,.int .i64 J,.int .i64 K] rfl rfl ?c1 ?c2 ?c3 ?c4 ?c5 ?_))
     case o1=>exact (d.alloc _).alloc _
     case c1=>exact FX _ _ _ _ _ _ js
     case c2=>intro u hu;simp at hu;rcases hu with rfl|rfl|rfl <;>rfl
     case c3=>unfold maxLen;omega
     case c4=>omega
     case c5=>have:=l.size;simp;omega
     intro v' w6 c f _;have C:=fun g y=>(d.lt g y).1
     have ad:Ar p w w6:=((l.alloc _).alloc _).grown f C;have ae:Aq w6 p G q:=Ar.text w (Aq.later E jq) f C hp;clear f;go_wp2_with fail;go_roundg (n - (k+1))
     case measure=>omega
     case rel=>exact ⟨k+1,L++[(O,J,K)],rfl,jo,by go_num,by simp [hL],by rw [Gq];exact c,ae,ad,fun x D=>by rcases jT.1 D with r|r;exact A x r;(simp at r;subst r;exact ⟨N,Y,Z⟩)⟩
    .go_wp2;go_ret2;exact ⟨_,[],_,G,q,rfl,l.alloc _,Aq.later E jq,r,⟨Or.inl ⟨rfl,rfl,rfl⟩,fun g y=>(by cases y)⟩,js,fun x D=>by simp at D⟩
   .have c:=Ap.of_owns d;rw [<-hL] at c;have F:Dz w.heap.size wr _ L:=⟨c,fun g y=>(World.ownsRow.lt d g y).1⟩;clear d c;go_wp2;go_ret2;exact ⟨_,L,_,G,_,rfl,l,E,r,F,jo,A⟩
theorem Wa (p:Nat) (n:Nat) (m:Bool) (b:Value) (B:List BK) (s:ByteArray) (sh:Bool) (w:World) (c:s.size<=1099511627776) (d:Aq w p s sh) (f:p<w.heap.size) (i:n<=65535) (k:Am w b B) (l:B.length<=8) (a:∀g,b.ownBlock=some g->g≠p):
  Calls Tryz.prog 98 #[.pointer (some ⟨p,0,none⟩),.int .i64 n,.bool m,b] w (GQ w p s B n):=by
 cases m
 .rcases (show B.length<=2\/(3<=B.length/\B.length<=4)\/5<=B.length by omega) with h|h|h
  .exact Zl p n b B s sh w c d f i k (Nat.zero_le _) h a
  .exact YX p n b B s sh w c d f i k h.1 h.2 a
  .exact Rg p n b B s sh w c d f i k h l a
 .rcases (show B.length<=2\/(3<=B.length/\B.length<=4)\/5<=B.length by omega) with h|h|h
  .exact YW p n b B s sh w c d f i k (Nat.zero_le _) h a
  .exact RJ p n b B s sh w c d f i k h.1 h.2 a
  .exact Wd p n b B s sh w c d f i k h l a
end Go.Proofs.YtpapdkhjdelfcaaGreat
