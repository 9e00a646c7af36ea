import Derived.Test.YtpapdkhjdelfcaaGreatMBF
import Derived.Deep.CutBlock
namespace Go.Proofs.YtpapdkhjdelfcaaGreat
open Go.RowKit
set_option maxRecDepth 100000
set_option maxHeartbeats 4000000
theorem Zfw {o g f:Option (List Bool)} {m n a b:Nat} (h:o.bind (A9 m)=g.map (Prod.mk a)) (d:g.bind (A9 n)=f.map (Prod.mk b)):o.bind (A9 (m+n))=f.map (Prod.mk (a * 2 ^ n+b)):=by
 cases o with
 |none=>cases g with
  |none=>cases f with
   |none=>rfl
   |some Y=>simp at d
  |some Y=>simp at h
 |some X=>
  rw [Option.bind_some] at h |-;unfold A9 at h d |-;by_cases c:X.length<m
  .rw [if_pos c] at h;rw [if_pos jo];cases g with
   |some Y=>simp at h
   |none=>cases f with
    |none=>rfl
    |some Y=>simp at d
  .rw [if_neg c] at h;cases g with
   |none=>simp at h
   |some Y=>
    simp only [Option.map_some,Option.some.injEq,Prod.mk.injEq] at h;obtain ⟨rfl,rfl⟩:=h;rw [Option.bind_some] at d;by_cases i:(X.drop m).length<n
    .rw [if_pos i] at d;rw [jh] at i;rw [if_pos jo];cases f with
     |none=>rfl
     |some Y=>simp at d
    .rw [if_neg i] at d;rw [jh] at i;rw [if_neg jo];cases f with
     |none=>simp at d
     |some Y=>
      simp only [Option.map_some,Option.some.injEq,Prod.mk.injEq] at d |-;obtain ⟨rfl,rfl⟩:=d;refine ⟨?_,by rw [List.drop_drop]⟩;rw [List.take_add,Wq,jk,jh,Nat.min_eq_left jo]
theorem Zfv (o:Option (List Bool)):o.bind (A9 0)=o.map (Prod.mk 0):=by
 cases o with
 |none=>rfl
 |some X=>simp [A9,AD]
def ZcG (c:jt) (a:Bool) (wp wo n:Nat) (B:List BK) (L:List EN) (b:Bool) (s:jt) (sh:Bool):Prop:=
 (b=true->sh=false/\L.length=n/\(Zcp c a).bind (BY (FB wp wo) n)=(Zcp s sh).map (Prod.mk (L.map (Zai B))))/\(b=false->∀E r,(Zcp c a).bind (BY (FB wp wo) n)=some (E,r)->∃e∈E,(B.length:Int)<=e.2)
def Zcu (b:jt) (a:Bool) (wp wo k:Nat) (E:List EI) (s:jt) (sh:Bool):Prop:=E.length=k/\(Zcp b a).bind (BY (FB wp wo) k)=(Zcp s sh).map (Prod.mk E)
theorem Zcu.nil (s:jt) (sh:Bool) (wp wo:Nat):Zcu s sh wp wo 0 [] s sh:=⟨rfl,by cases Zcp s sh <;>rfl⟩
theorem Zcu.more {g s i l:jt} {c sh d f:Bool} {wp wo k a b:Nat} {E:List EI} (h:Zcu g c wp wo k E s sh) (m:(Zcp s sh).bind (A9 wp)=(Zcp i d).map (Prod.mk a)) (n:(Zcp i d).bind (A9 wo)=(Zcp l f).map (Prod.mk b)):Zcu g c wp wo (k+1) (E++[((a:Int),(b:Int))]) l f:=
 ⟨by simp [h.1],OE h.2 (Bw m (Bw n (Q:=fun y:Nat=>DT ((a:Int),(y:Int))) (GK _)))⟩
theorem Zcu.bad {d s:jt} {c sh:Bool} {wp wo k n:Nat} {E:List EI} {e:EI} {B:List BK} {L:List EN} {m:jt} {f:Bool} (h:Zcu d c wp wo k (E++[e]) s sh) (o:k<=n) (p:(B.length:Int)<=e.2):ZcG d c wp wo n B L false m f:=by
 refine ⟨fun e=>(by cases e),fun _ t r b=>⟨e,?_,p⟩⟩;obtain ⟨u,a⟩:=h;cases g:Zcp d c with
 |none=>rw [g] at b;cases b
 |some X=>
  rw [g,Option.bind_some] at b a;obtain ⟨v,q⟩:=(Zde b).2 k o;rw [q] at a;cases l:Zcp s sh with
  |none=>rw [l] at a;cases a
  |some Y=>
   rw [l] at a;injection a with a
   injection a with a _
   exact List.mem_of_mem_take (i:=k) (by rw [a];simp)
theorem Zcu.short {d s:jt} {a:Bool} {wp wo k n:Nat} {E:List EI} {B:List BK} {L:List EN} {f:jt} {c:Bool} (h:Zcu d a wp wo k E s true) (g:k<=n):ZcG d a wp wo n B L false f c:=by
 refine ⟨fun e=>(by cases e),fun _ i r b=>?_⟩;rw [Le (L:=([]:List EI)) h.2 g] at b;cases b
theorem Zcu.done {b s:jt} {a:Bool} {wp wo n:Nat} {B:List BK} {L:List EN} (h:Zcu b a wp wo n (L.map (Zai B)) s false):ZcG b a wp wo n B L true s false:=
 ⟨fun _=>⟨rfl,by simpa using h.1,h.2⟩,fun e=>(by cases e)⟩
theorem Zc7 {B:List BK} (c:AH B) {m:Nat} (d:m<B.length) (a b:Int):Zai B (B[m].1,a,b)=(wv a b,(m:Int)):=by
 unfold Zai;rw [RM c.2 d]
def ZeO (w:jj) (p:Nat) (c:jt) (b:Bool) (wp wo:Nat) (B:List BK) (n:Nat) (e:Ending) (w':jj):Prop:=∃(v:ju) (L:List EN) (a:Bool) (s:jt) (sh:Bool),e= .returned (.tuple #[v,.bool a])/\Ar p w w'/\Aq w' p s sh/\s.size<=c.size/\Dz w.heap.size w' v L/\L.length<=n/\(∀x∈L,DZ B x)/\ZcG c b wp wo n B L a s sh
theorem ZdG (p:Nat) (n:Nat) (pb:Bool) (vB:ju) (B:List BK) (s:jt) (sh:Bool) (w:jj) (hs:s.size<=maxLen) (ht:Aq w p s sh) (hp:p<w.heap.size) (hn:n<=65535) (hB:Am w vB B) (hG:AH B) (aa:∀g,vB.ownBlock=some g->g≠p):
  Calls Tryz.prog 97 #[.pointer (some ⟨p,0,none⟩),.int .i64 n,.bool pb,vB] w (ZeO w p s sh (if pb then 64 else 0) (if pb then 8 else 16) B n):=by
 have HG:=jp hG;have bb:=hG.1.1;clear hG;obtain ⟨wp,T⟩:∃wp,wp=(if pb then 64 else 0):=⟨_,rfl⟩;obtain ⟨wo,U⟩:∃wo,wo=(if pb then 8 else 16):=⟨_,rfl⟩;rw [<-T,<-U];obtain ⟨i0,hi,ak,al,am⟩:=info_parts Tryz.infoEN
 obtain ⟨an,ba,rfl⟩:∃ao cap,vB= .slice ao B.length cap:=by
  rcases hB.form with ⟨rfl,rfl⟩|⟨g,cap,rfl,_⟩
  .exact ⟨_,_,rfl⟩
  .exact ⟨_,_,rfl⟩
 go_enter Tryz.func97,Tryz.ntmps97;go_wp2;go_loopg [10,11] n (fun g v i wr=>∃(k:Nat) (L:List EN) (H:jt) (I:Bool),g=n - k/\k<=n/\i= .int .i64 k/\L.length=k/\wr.ownsRow w.heap.size 146 3 v k (Av L)/\Aq wr p H I/\H.size<=s.size/\Ar p w wr/\(∀x∈L,DZ B x)/\Zcu s sh wp wo k (L.map (Zai B)) H I)
 case atStart=>exact ⟨0,[],s,sh,jo,jo,rfl,rfl,World.ownsRow_nil _ _ _ _,ht,jH _,Ar.refl _ _,fun x hx=>(by simp at hx),Zcu.nil s sh wp wo⟩
 case round=>
  obtain ⟨k,L,H,I,R,hk,rfl,hL,f,a0,ab,z,C,ap⟩:=hrel;have J:=jp ap;clear ap;have bc:p<wr.heap.size:=jN hp z.size;have aq:=hB.but z aa;obtain ⟨d0,d1,e0,e1⟩:=a0;by_cases ar:k<n/\I=false
  .obtain ⟨au,rfl⟩:=ar;cases pb
   .go_wp2_with fail;refine (Zcv p 2 H false _ ji ji jo (Aq.later ⟨d0,d1,e0,e1⟩ jq)).mono ?_;rintro e V ⟨v2,S,r,rfl,E,W,kk,rfl,k1,M,k3,k4,k9⟩
    have HI:Hid (Zcu s sh wp wo (k+1) (L.map (Zai B)++[(wv 0 0,kk)]) S r):=by
     subst T U;have:=J.out.more (Zfv _) (b:=kk.toNat) k9;rwa [Int.toNat_of_nonneg M] at this
    clear k3 k9;have a:wr.heap.size≠p:=jo
    have X:V.cell? ⟨wr.heap.size,0,none⟩=some (.string ⟨#[]⟩):=E.cell js a;have ac:V.cell? ⟨wr.heap.size,1,none⟩=some (.int .i64 0):=E.cell js a;have ad:V.cell? ⟨wr.heap.size,2,none⟩=some (.int .i64 0):=E.cell js a;have ae:V.frozen? ⟨wr.heap.size,0,none⟩=false:=E.frozen (v:= .string ⟨#[]⟩) js js a;have A:Ar p wr V:=(Ar.of_bel jq).trans E;have af:=aq.but A aa;have ag:=JB f A (jN hp (jH _));have N:=z.trans A;by_cases a1:kk<(B.length:Int)
    .obtain ⟨m,rfl⟩:=jM M;have o:m<B.length:=jo
     obtain ⟨g,ah,a2⟩:∃g,an=some ⟨g,0,none⟩/\V.cell? ⟨g,m * 2,none⟩=some (.string B[m].1):=by
      rcases af.form with ⟨_,rfl⟩|⟨g,cap,hv,_,_,hc⟩
      .simp at o
      .simp only [Value.slice.injEq] at hv;exact ⟨g,hv.1,(hc m o).1⟩
     subst ah;have O:∃b∈B,b.1=B[m].1:=⟨B[m],jJ o,rfl⟩
     have HJ:Hid (Zcu s sh wp wo (k+1) ((L++[(B[m].1,0,0)]).map (Zai B)) S r):=by
      show Zcu _ _ _ _ _ _ _ _;rw [List.map_append,List.map_singleton,Zc7 HG.out o];exact HI.out
     clear HI;generalize B[m].1=F at *;have P:Ar p wr (V.setCell ⟨wr.heap.size,0,none⟩ (.string F)):=A.step_new js _;go_wp2_with (first|(at_builtin;refine wpList_append_own _ rfl _ _ 83 rfl w.heap.size 146 i0 (.agg #[.string ByteArray.empty,.int .i64 0,.int .i64 0]) 3 32 Tryz.underlying83 hi ak al am rfl ji _ k (Av L) rfl ?o1 ⟨V.heap.size,0,none⟩ 1 1 [.string F,.int .i64 0,.int .i64 0] rfl rfl ?c1 ?c2 ?c3 ?c4 ?c5 ?_))
     case o1=>exact (JB f P hp).alloc _
     case c1=>exact FX _ _ _ _ _ _ js
     case c2=>intro u hu;simp at hu;rcases hu with rfl|rfl|rfl <;>rfl
     case c3=>unfold maxLen;omega
     case c4=>omega
     case c5=>have:=N.size;simp;omega
     intro v' w6 c d _;have D:=fun g R=>(f.lt g R).1
     have ai:Ar p w w6:=((z.trans P).alloc _).grown d D;have aj:Aq w6 p S r:=Ar.text w (Aq.later (Aq.other W jo) (Aa.step_alloc (jD _) _)) d D hp;clear d;go_wp2;go_roundg (n - (k+1))
     case measure=>omega
     case rel=>exact ⟨k+1,L++[(F,0,0)],S,r,rfl,jo,by go_num,by simp [hL],by rw [Gq];exact c,aj,jo,ai,fun x hx=>(by rcases jT.1 hx with Y|Y;exact C x Y;(simp at Y;subst Y;exact ⟨O,Cd,Cd⟩)),HJ.out⟩
    .have Z:Hid (ZcG s sh wp wo n B [] false S r):=HI.out.bad jo jv;go_wp2;go_ret2;exact ⟨_,[],_,S,r,rfl,N,W,jo,⟨Or.inl ⟨rfl,rfl,rfl⟩,fun g R=>(by cases R)⟩,js,fun x hx=>(by simp at hx),Z.out⟩
   .go_wp2_with fail;refine (Zcv p 4 H false _ ji ji jo (Aq.later ⟨d0,d1,e0,e1⟩ jq)).mono ?_;rintro e V ⟨v3,S,r,rfl,E,W,t,rfl,k1,k2,k3,k4,k9⟩;have av:Af t:=⟨k2,by simpa using k3⟩;have a3:Hid ((Zcp H false).bind (A9 32)=(Zcp S r).map (Prod.mk t.toNat)):=k9;clear k2 k3 k9;go_wp2_with fail;refine (Zcv p 4 S r _ ji ji jo W).mono ?_;rintro e w4 ⟨v4,s4,aw,rfl,a4,a5,y,rfl,l1,l2,l3,l4,l9⟩;have ax:Af y:=⟨l2,by simpa using l3⟩;have a6:Hid ((Zcp S r).bind (A9 32)=(Zcp s4 aw).map (Prod.mk y.toNat)):=l9;clear l2 l3 l9;have q:=E.trans a4;have a:wr.heap.size≠p:=jo
    have X:w4.cell? ⟨wr.heap.size,0,none⟩=some (.string ⟨#[]⟩):=q.cell js a;have ac:w4.cell? ⟨wr.heap.size,1,none⟩=some (.int .i64 0):=q.cell js a;have ad:w4.cell? ⟨wr.heap.size,2,none⟩=some (.int .i64 0):=q.cell js a;have ae:w4.frozen? ⟨wr.heap.size,0,none⟩=false:=q.frozen (v:= .string ⟨#[]⟩) js js a;have a7:w4.frozen? ⟨wr.heap.size,1,none⟩=false:=q.frozen (v:= .int .i64 0) js js a;have a8:w4.frozen? ⟨wr.heap.size,2,none⟩=false:=q.frozen (v:= .int .i64 0) js js a;go_wp2_with fail;refine (Zcv p 1 s4 aw _ ji ji jo (Aq.other (Aq.other a5 jo) jo)).mono ?_;rintro e w5 ⟨v5,s5,K,rfl,Q,ay,kk,rfl,m1,M,m3,m4,m9⟩
    have HI:Hid (Zcu s sh wp wo (k+1) (L.map (Zai B)++[(wv t y,kk)]) s5 K):=by
     subst T U;have:=J.out.more (Zfw a3.out a6.out) (b:=kk.toNat) m9;rw [Int.toNat_of_nonneg M] at this
     have e:((t.toNat * 2 ^ 32+y.toNat:Nat):Int)=wv t y:=by
      obtain ⟨h,rfl⟩:=jM av.1;obtain ⟨l,rfl⟩:=jM ax.1;unfold wv;simp only [Int.toNat_natCast];omega
     rwa [e] at this
    clear m3 m9;have a9:Ar p wr ((w4.setCell ⟨wr.heap.size,1,none⟩ (.int .i64 t)).setCell ⟨wr.heap.size,2,none⟩ (.int .i64 y)):=(((Ar.of_bel jq).trans q).step_new js _).step_new js _;have A:Ar p wr w5:=a9.trans Q;have bd:w5.cell? ⟨wr.heap.size,0,none⟩=some (.string ⟨#[]⟩):=Q.cell (by rw [Ad js,Ad js];exact X) a;have be:w5.cell? ⟨wr.heap.size,1,none⟩=some (.int .i64 t):=Q.cell (by rw [Ad js];exact Bc ac) a;have bf:w5.cell? ⟨wr.heap.size,2,none⟩=some (.int .i64 y):=Q.cell (Bc (v:= .int .i64 0) (by rw [Ad js];exact ad)) a;have bg:w5.frozen? ⟨wr.heap.size,0,none⟩=false:=Q.frozen (v:= .string ⟨#[]⟩) (by rw [Ad js,Ad js];exact X) (by rw [Ag,Ag];exact ae) a;clear X ac ad ae a7 a8;have af:=aq.but A aa;have ag:=JB f A (jN hp (jH _));have N:=z.trans A;by_cases a1:kk<(B.length:Int)
    .obtain ⟨m,rfl⟩:=jM M;have o:m<B.length:=jo
     obtain ⟨g,ah,a2⟩:∃g,an=some ⟨g,0,none⟩/\w5.cell? ⟨g,m * 2,none⟩=some (.string B[m].1):=by
      rcases af.form with ⟨_,rfl⟩|⟨g,cap,hv,_,_,hc⟩
      .simp at o
      .simp only [Value.slice.injEq] at hv;exact ⟨g,hv.1,(hc m o).1⟩
     subst ah;have O:∃b∈B,b.1=B[m].1:=⟨B[m],jJ o,rfl⟩
     have HJ:Hid (Zcu s sh wp wo (k+1) ((L++[(B[m].1,t,y)]).map (Zai B)) s5 K):=by
      show Zcu _ _ _ _ _ _ _ _;rw [List.map_append,List.map_singleton,Zc7 HG.out o];exact HI.out
     clear HI;generalize B[m].1=F at *;have P:Ar p wr (w5.setCell ⟨wr.heap.size,0,none⟩ (.string F)):=A.step_new js _;go_wp2_with (first|(at_builtin;refine wpList_append_own _ rfl _ _ 83 rfl w.heap.size 146 i0 (.agg #[.string ByteArray.empty,.int .i64 0,.int .i64 0]) 3 32 Tryz.underlying83 hi ak al am rfl ji _ k (Av L) rfl ?o1 ⟨w5.heap.size,0,none⟩ 1 1 [.string F,.int .i64 t,.int .i64 y] rfl rfl ?c1 ?c2 ?c3 ?c4 ?c5 ?_))
     case o1=>exact (JB f P hp).alloc _
     case c1=>exact FX _ _ _ _ _ _ js
     case c2=>intro u hu;simp at hu;rcases hu with rfl|rfl|rfl <;>rfl
     case c3=>unfold maxLen;omega
     case c4=>omega
     case c5=>have:=N.size;simp;omega
     intro v' w6 c d _;have D:=fun g R=>(f.lt g R).1
     have ai:Ar p w w6:=((z.trans P).alloc _).grown d D;have aj:Aq w6 p s5 K:=Ar.text w (Aq.later (Aq.other ay jo) (Aa.step_alloc (jD _) _)) d D hp;clear d;go_wp2;go_roundg (n - (k+1))
     case measure=>omega
     case rel=>exact ⟨k+1,L++[(F,t,y)],s5,K,rfl,jo,by go_num,by simp [hL],by rw [Gq];exact c,aj,jo,ai,fun x hx=>(by rcases jT.1 hx with Y|Y;exact C x Y;(simp at Y;subst Y;exact ⟨O,av,ax⟩)),HJ.out⟩
    .have Z:Hid (ZcG s sh wp wo n B [] false s5 K):=HI.out.bad jo jv;go_wp2;go_ret2;exact ⟨_,[],_,s5,K,rfl,N,ay,jo,⟨Or.inl ⟨rfl,rfl,rfl⟩,fun g R=>(by cases R)⟩,js,fun x hx=>(by simp at hx),Z.out⟩
  .have c:=Ap.of_owns f;rw [<-hL] at c;have G:Dz w.heap.size wr _ L:=⟨c,fun g R=>(World.ownsRow.lt f g R).1⟩;clear f c;by_cases au:k<n
   .cases I
    .exact absurd ⟨au,rfl⟩ ar
    .have Z:Hid (ZcG s sh wp wo n B L false H true):=J.out.short jo;go_wp2_with fail;go_quiet (fail);go_wp2;go_ret2;exact ⟨_,L,_,H,_,rfl,z.trans (Ar.of_bel jq),Aq.later ⟨d0,d1,e0,e1⟩ jq,ab,G.later jq,jo,C,Z.out⟩
   .have az:k=n:=jo
    cases I
    .have Z:Hid (ZcG s sh wp wo n B L true H false):=Zcu.done (by rw [<-az];exact J.out);clear az T U HG J;go_wp2_with fail;go_quiet (fail);go_wp2;go_ret2;exact ⟨_,L,_,H,_,rfl,z.trans (Ar.of_bel jq),Aq.later ⟨d0,d1,e0,e1⟩ jq,ab,G.later jq,jo,C,Z.out⟩
    .have Z:Hid (ZcG s sh wp wo n B L false H true):=J.out.short jo;go_wp2_with fail;go_quiet (fail);go_wp2;go_ret2;exact ⟨_,L,_,H,_,rfl,z.trans (Ar.of_bel jq),Aq.later ⟨d0,d1,e0,e1⟩ jq,ab,G.later jq,jo,C,Z.out⟩
theorem Zdp (X:jz):(Z8 X).data.toList=X.map fun b=>if b then 49 else 48:=rfl
theorem Zfs (X:jz):Ba (Z8 X).data.toList=((AD X:Nat):Int):=by
 have h:∀n (X:jz),X.length=n->Ba (Z8 X).data.toList=((AD X:Nat):Int):=by
  intro n
  induction n with
  |zero=>
   intro X a;obtain rfl:=jS a;rfl
  |succ n ih=>
   intro X a;have c:X≠[]:=fun e=>by rw [e] at a;simp at a
   have f:=List.dropLast_concat_getLast c;have d:X.dropLast.length=n:=by rw [List.length_dropLast,a];rfl
   generalize X.getLast c=b at f;generalize X.dropLast=D at *;rw [<-f,Zdp,List.map_append,List.map_singleton,PV,<-Zdp,ih D d,Wq];cases b
   .simp [AD];omega
   .simp [AD];omega
 exact h _ X rfl
theorem Zdi (Z:jz) (a b:Nat):(Z8 Z).extract a b=Z8 ((Z.drop a).take (b - a)):=by
 rw [<-Zbd ((Z8 Z).extract a b),Kr,Zdp,<-List.map_drop,<-List.map_take];rfl
theorem Zdc {x:jt} {X:jz} (h:x=Z8 X) (a b:Nat):Ba (x.extract a b).data.toList=((AD ((X.drop a).take (b - a)):Nat):Int):=by
 rw [h,Zdi,Zfs]
def Zct (Z:jz) (wp wo k:Nat) (E:List EI):Prop:=E.length=k/\BY (FB wp wo) k Z=some (E,Z.drop (k * (wp+wo)))
theorem Zct.nil (Z:jz) (wp wo:Nat):Zct Z wp wo 0 []:=⟨rfl,by simp [BY]⟩
theorem Zct.item {Z X:jz} {wp wo k:Nat} {E:List EI} {a b:Int} (h:Zct Z wp wo k E) (o:k * (wp+wo)+(wp+wo)<=Z.length) (d:X=(Z.drop (k * (wp+wo))).take (wp+wo)) (f:a=((AD (X.take wp):Nat):Int)) (g:b=((AD ((X.drop wp).take wo):Nat):Int)):Zct Z wp wo (k+1) (E++[(a,b)]):=by
 refine ⟨by simp [h.1],?_⟩;rw [BY,h.2,Option.bind_some];obtain ⟨Y,c⟩:∃Y,Y=Z.drop (k * (wp+wo)):=⟨_,rfl⟩;have i:wp+wo<=Y.length:=by rw [c,jh];omega
 have l:Z.drop ((k+1) * (wp+wo))=Y.drop (wp+wo):=by rw [c,List.drop_drop,Nat.succ_mul]
 rw [<-c] at d;rw [l];simp only;rw [<-c];have m:X.take wp=Y.take wp:=by rw [d,List.take_take,Nat.min_eq_left jo]
 have n:(X.drop wp).take wo=(Y.drop wp).take wo:=by rw [d,List.drop_take,List.take_take,Nat.min_eq_left jo]
 unfold FB Bo A9;rw [if_neg jo,Option.bind_some];simp only;rw [if_neg (by rw [jh];omega),Option.bind_some];simp only [DT,Option.map_some,List.drop_drop];rw [f,g,m,n]
theorem Zfj {wp wo:Nat} {X Y:jz} {e:EI} (h:FB wp wo X=some (e,Y)):X.length=(wp+wo)+Y.length:=by
 unfold FB at h;obtain ⟨c,d,a,h⟩:=Da h;obtain ⟨f,g,b,h⟩:=Da h;have i:=ZaC a;have k:=ZaC b;injection h with h
 injection h with _ h
 subst h;omega
theorem Zdt {wp wo:Nat} {X:jz}:∀{n:Nat} {E:List EI} {Y:jz},BY (FB wp wo) n X=some (E,Y)->X.length=n * (wp+wo)+Y.length:=by
 intro n
 induction n with
 |zero=>
  intro E Y h;injection h with h
  injection h with _ h
  subst h;simp
 |succ n ih=>
  intro E Y h;rw [BY] at h;cases a:BY (FB wp wo) n X with
  |none=>rw [a] at h;cases h
  |some y=>
   rw [a,Option.bind_some] at h;cases b:FB wp wo y.2 with
   |none=>rw [b] at h;cases h
   |some z=>
    rw [b] at h;injection h with h
    injection h with _ h
    subst h;have c:=ih (E:=y.1) (Y:=y.2) a;have d:=Zfj (e:=z.1) (Y:=z.2) b;rw [Nat.succ_mul];omega
def ZcA (Z:jz) (wp wo n:Nat) (B:List BK) (L:List EN) (a:Bool):Prop:=
 (a=true->L.length=n/\BY (FB wp wo) n Z=some (L.map (Zai B),Z.drop (n * (wp+wo))))/\(a=false->∀E r,BY (FB wp wo) n Z=some (E,r)->∃e∈E,(B.length:Int)<=e.2)
theorem ZcA.few {Z:jz} {wp wo n:Nat} {B:List BK} {L:List EN} (h:Z.length<n * (wp+wo)):ZcA Z wp wo n B L false:=by
 refine ⟨fun e=>(by cases e),fun _ E r a=>?_⟩;have:=Zdt a;omega
theorem Zct.bad {Z:jz} {wp wo k n:Nat} {E:List EI} {e:EI} {B:List BK} {L:List EN} (h:Zct Z wp wo k (E++[e])) (c:k<=n) (d:(B.length:Int)<=e.2):ZcA Z wp wo n B L false:=by
 refine ⟨fun e=>(by cases e),fun _ g r b=>⟨e,?_,d⟩⟩;obtain ⟨l,f⟩:=(Zde b).2 k c;have a:=h.2;rw [f] at a;injection a with a
 injection a with a _
 exact List.mem_of_mem_take (i:=k) (by rw [a];simp)
theorem Zct.done {Z:jz} {wp wo n:Nat} {B:List BK} {L:List EN} (h:Zct Z wp wo n (L.map (Zai B))):ZcA Z wp wo n B L true:=⟨fun _=>⟨by simpa using h.1,h.2⟩,fun e=>(by cases e)⟩
theorem Zee {X:jz} {c d:Int} (i:c=((AD ((X.drop 0).take (32 - 0)):Nat):Int)) (k:d=((AD ((X.drop 32).take (64 - 32)):Nat):Int)) (m:64<=X.length):wv c d=((AD (X.take 64):Nat):Int):=by
 have e:X.take 64=X.take 32++(X.drop 32).take 32:=by rw [show 64=32+32 from rfl,List.take_add]
 have l:((X.drop 32).take 32).length=32:=by rw [jk,jh];omega
 have f:c=((AD (X.take 32):Nat):Int):=i;have g:d=((AD ((X.drop 32).take 32):Nat):Int):=k;rw [f,g,e,Wq,l,show (2:Nat) ^ 32=4294967296 from rfl];unfold wv;generalize AD (X.take 32)=a;generalize AD ((X.drop 32).take 32)=b;omega
def Zc5 (w:jj) (p:Nat) (b:jt) (wp wo:Nat) (B:List BK) (n:Nat) (e:Ending) (w':jj):Prop:=∃(v:ju) (L:List EN) (a:Bool) (s:jt) (sh:Bool),e= .returned (.tuple #[v,.bool a])/\Ar p w w'/\Aq w' p s sh/\s.size<=b.size/\Dz w.heap.size w' v L/\L.length<=n/\(∀x∈L,DZ B x)/\ZcA (Az b.data.toList) wp wo n B L a
theorem Zd0 (p:Nat) (s:jt) (sh:Bool) (w:jj) (Q:s.size<=1099511627776) (D:Aq w p s sh):
  Calls Tryz.prog 145 #[.pointer (some ⟨p,0,none⟩)] w (LX w p fun v E n=>∃x:jt,v= .string x/\E.size<=s.size/\n=sh/\Db x/\x.size=8 * s.size/\x=Z8 (Az s.data.toList)):=by
 have q:Hid (∀k (h:k<s.size) (x y:jt),x=Z8 (Az (s.data.toList.take k))->y=Z8 (Ax s[k].toNat 8)->x++y=Z8 (Az (s.data.toList.take (k+1)))):=by
  intro k h x y F G;rw [jQ (by simpa using h),Ly,Zao,F,G];rfl
 have r:Hid (s.data.toList.take s.size=s.data.toList):=jR js;go_enter Tryz.func145,Tryz.ntmps145;go_wp2;go_loopw [3,4] (fun o i wr=>∃(x:jt) (k:Nat),k<=s.size/\o= .string x/\i= .int .i64 k/\x.size=8 * k/\Db x/\Aa w wr/\Hid (x=Z8 (Az (s.data.toList.take k)))) (fun _ i _=>s.size - (intOf i).toNat)
 case atStart=>exact ⟨ByteArray.empty,0,jo,rfl,rfl,rfl,LM,jD _,rfl⟩
 case round=>
  obtain ⟨x,k,R,rfl,rfl,hx,c,A,f⟩:=hrel;obtain ⟨H,I,J,K⟩:=D.later A;by_cases t:k<s.size
  .have S:=Km s[k];have L:x.size<=8796093022208:=jo
   have HX:Hid (x.size=8 * k):=hx;have B:Hid (∀y,y=Z8 (Ax s[k].toNat 8)->x++y=Z8 (Az (s.data.toList.take (k+1)))):=fun y g=>q.out k t x y f.out g
   clear hx f q r;go_wp2_with fail;have u:∀l,Calls Tryz.prog 154 #[.int .i64 (s[k].toNat:Int),.int .i64 8] l (En l (TQ (Z8 (Ax s[k].toNat 8)))):=fun l=>Zan s[k].toNat 8 l ji
   generalize s[k].toNat=m at *;refine (u _).mono ?_;rintro e T ⟨y,rfl,M,g⟩;have a:y=Z8 (Ax m 8):=g;have N:y.size=8:=by rw [a,Zaf,Bd]
   have d:Db y:=by
    rw [a];intro i C
    have e:(Z8 (Ax m 8))[i]=if ((Ax m 8)[i]'(by rw [Zaf] at C;exact C)) then 49 else 48:=by
     show ((Z8 (Ax m 8)).data[i])=_;simp [Z8,Ai]
    rw [e];split <;>simp
   have O:Hid (x++y=Z8 (Az (s.data.toList.take (k+1)))):=B.out y a;clear g a B;go_wp2;go_roundw
   case rel=>exact ⟨_,k+1,jo,rfl,by go_num,by have:=HX.out;simp;omega,Ib c d,jq,O⟩
   case measure=>simp [intOf];omega
  .have b:k=s.size:=jo
   have z:Hid (x.size=8 * s.size):=by
    subst b;exact hx
   have P:Hid (x=Z8 (Az s.data.toList)):=by
    have h:=f.out;rw [b,r.out] at h;exact h
   clear hx f r q b;go_wp2;go_ret;exact ⟨_,ByteArray.empty,sh,rfl,(Ar.of_bel A).step_set _,Aq.set0 ⟨H,I,J,K⟩ _,_,rfl,Nat.zero_le _,rfl,c,z.out,P.out⟩
theorem Zfx (p:Nat) (n:Nat) (vB:ju) (B:List BK) (s:jt) (sh:Bool) (w:jj) (hs:s.size<=1099511627776) (ht:Aq w p s sh) (hp:p<w.heap.size) (hn:n<=65535) (hB:Am w vB B) (ay:B.length<=8) (q:Nat) (hq:(q=1/\B.length<=2)\/(q=2/\3<=B.length/\B.length<=4)\/(q=3/\5<=B.length)) (ae:∀g,vB.ownBlock=some g->g≠p) (hG:AH B):
  Calls Tryz.prog 98 #[.pointer (some ⟨p,0,none⟩),.int .i64 n,.bool false,vB] w (Zc5 w p s 0 q B n):=by
 have HG:=jp hG;clear hG;obtain ⟨Z,K⟩:∃Z,Z=Az s.data.toList:=⟨_,rfl⟩;unfold Zc5;rw [<-K];obtain ⟨i0,hi,af,ag,ah⟩:=info_parts Tryz.infoEN
 obtain ⟨ai,ax,rfl⟩:∃ao cap,vB= .slice ao B.length cap:=by
  rcases hB.form with ⟨rfl,rfl⟩|⟨g,cap,rfl,_⟩
  .exact ⟨_,_,rfl⟩
  .exact ⟨_,_,rfl⟩
 go_enter Tryz.func98,Tryz.ntmps98;have az:1<=q/\q<=3:=jo
 have a0:(2:Int) ^ q<=8:=by rcases (show q=1\/q=2\/q=3 by omega) with rfl|rfl|rfl <;>decide
 have hS:q=0+q:=(Nat.zero_add q).symm;have HS:=jp hS;have R:q<=67/\q<=q/\0<=q:=jo
 obtain ⟨F,f⟩:∃F,F=n * q:=⟨_,rfl⟩;have aj:(n:Int) * (q:Int)=(F:Int):=by rw [f];push_cast;rfl
 have S:F<=4390845:=by rw [f];exact jX (Nat.mul_le_mul hn R.1) ji
 have M:=jp f;have ak:(q:Int) - (q:Int)=0:=jo
 clear hS f;go_upto_block 0 with fail
 go_cut [10] from 20 to 26 (fun v wc=>v= .int .i64 (q:Int)/\w=wc)
 case first=>
  clear HS M R aj S ak;go_wp2_with fail;rcases hq with ⟨rfl,hl⟩|⟨rfl,hl⟩|⟨rfl,hl⟩
  .refine wp_loop_rounds 1 ?_;rw [rounds_succ];go_wp2;go_meet
   case rel=>exact ⟨rfl,rfl⟩
  .refine wp_loop_rounds 2 ?_;rw [rounds_succ];go_wp2_with fail;rw [rounds_succ];go_wp2;go_meet
   case rel=>exact ⟨rfl,rfl⟩
  .refine wp_loop_rounds 3 ?_;rw [rounds_succ];go_wp2_with fail;rw [rounds_succ];go_wp2_with fail;rw [rounds_succ];go_wp2;go_meet
   case rel=>exact ⟨rfl,rfl⟩
 case rest=>
 obtain ⟨rfl,rfl⟩:=hcut;clear hq;go_wp2_with fail;refine (Zd0 p s sh _ hs ht).mono ?_;rintro e w1 ⟨v1,T,C,rfl,U,V,z,rfl,D,rfl,al,hz,E⟩;rw [<-K] at E;clear K;have am:=jp E;have N:Hid (Z.length=z.size):=by show _=_;rw [E,Zaf]
 clear E;by_cases G:z.size<F
 .have W:Hid (ZcA Z 0 q n B [] false):=ZcA.few (by have:=N.out;have:=M.out;rw [<-HS.out];omega);go_wp2;go_ret2;exact ⟨_,[],_,T,C,rfl,U,V,D,⟨Or.inl ⟨rfl,rfl,rfl⟩,fun g H=>(by cases H)⟩,js,fun x hx=>(by simp at hx),W.out⟩
 .have a1:z.size<=8796093022208:=jo
  clear hz;skip;go_wp2_with fail;have HL:Hid (F<=z.size):=by have h:=G;show _<=_;omega
  clear G;go_loopg [13,14] n (fun g v i wr=>∃(k:Nat) (L:List EN),g=n - k/\k<=n/\i= .int .i64 k/\L.length=k/\wr.ownsRow w.heap.size 146 3 v k (Av L)/\Aq wr p T C/\Ar p w wr/\(∀x∈L,DZ B x)/\Hid (Zct Z 0 q k (L.map (Zai B))))
  case atStart=>exact ⟨0,[],jo,jo,rfl,rfl,World.ownsRow_nil _ _ _ _,V,U,fun x hx=>(by simp at hx),Zct.nil Z 0 q⟩
  case round=>
   obtain ⟨k,L,H,hk,rfl,hL,c,O,o,I,t⟩:=hrel;have a2:p<wr.heap.size:=jN hp o.size;have an:=hB.but o ae;by_cases a3:k<n
   .obtain ⟨r,y⟩:∃r,r=k * q:=⟨_,rfl⟩;have a4:(k:Int) * (q:Int)=(r:Int):=by rw [y];push_cast;rfl
    have a5:r+q<=z.size:=by
     have D:F<=z.size:=HL.out;have h2:F=n * q:=M.out;have h3:=Nat.mul_le_mul_right q (show k+1<=n by omega);rw [Nat.succ_mul] at h3;omega
    have P:=jp y;clear y;go_upto_region 15 with fail
    have a6:(z.extract r (r+q)).size=q:=jx
    have A:=Bp al r (r+q);obtain ⟨X,hX⟩:∃X,X=(Z.drop (k * (0+q))).take (0+q):=⟨_,rfl⟩
    have HX:Hid (z.extract r (r+q)=Z8 X):=by
     show _=_;rw [am.out,Zdi,hX,Nat.zero_add,<-P.out];simp
    have ap:Hid (X.length=q):=by
     show _=_;have a7:Z.length=z.size:=N.out;rw [hX,jk,jh,Nat.zero_add,<-P.out];omega
    have Y:=jp hX;clear hX;generalize z.extract r (r+q)=x at *;go_wp2_with fail;refine (Fe _ _ jx (Bp A _ _)).mono ?_;rintro e w5 ⟨rfl,rfl⟩;have aa:=jp (Zdc HX.out 0 q);clear HX;have aq:0<=Ba (x.extract 0 q).data.toList:=(Dn _ (Bp A _ _) q jx).1;have ar:Ba (x.extract 0 q).data.toList<2 ^ q:=(Dn _ (Bp A _ _) q jx).2;generalize Ba (x.extract 0 q).data.toList=kk at *;have HI:Hid (Zct Z 0 q (k+1) (L.map (Zai B)++[(wv 0 0,kk)])):=t.out.item (by have:=N.out;rw [Nat.zero_add,<-P.out];omega) Y.out (by simp [wv,AD]) aa.out;clear aa Y ap;by_cases a8:kk<(B.length:Int)
    .obtain ⟨m,rfl⟩:=jM aq;have l:m<B.length:=jo
     obtain ⟨g,au,a9,ab⟩:∃g,ai=some ⟨g,0,none⟩/\wr.cell? ⟨g,m * 2,none⟩=some (.string B[m].1)/\g<wr.heap.size:=by
      rcases an.form with ⟨_,rfl⟩|⟨g,cap,hv,_,ab,hc⟩
      .simp at l
      .simp only [Value.slice.injEq] at hv;exact ⟨g,hv.1,(hc m l).1,ab⟩
     subst au;have ac:∃b∈B,b.1=B[m].1:=⟨B[m],jJ l,rfl⟩
     have HJ:Hid (Zct Z 0 q (k+1) ((L++[(B[m].1,0,0)]).map (Zai B))):=by
      show Zct _ _ _ _ _;rw [List.map_append,List.map_singleton,Zc7 HG.out l];exact HI.out
     clear HI t;generalize B[m].1=ad at *;clear ar;go_wp2_with (first|(at_builtin;refine wpList_append_own _ rfl _ _ 83 rfl w.heap.size 146 i0 (.agg #[.string ByteArray.empty,.int .i64 0,.int .i64 0]) 3 32 Tryz.underlying83 hi af ag ah rfl ji _ k (Av L) rfl ?o1 ⟨wr.heap.size+1,0,none⟩ 1 1 [.string ad,.int .i64 0,.int .i64 0] rfl rfl ?c1 ?c2 ?c3 ?c4 ?c5 ?_))
     case o1=>exact (c.alloc _).alloc _
     case c1=>exact FX _ _ _ _ _ _ js
     case c2=>intro u hu;simp at hu;rcases hu with rfl|rfl|rfl <;>rfl
     case c3=>unfold maxLen;omega
     case c4=>omega
     case c5=>have:=o.size;simp;omega
     intro v' w6 a d _;have J:=fun g H=>(c.lt g H).1
     have av:Ar p w w6:=((o.alloc _).alloc _).grown d J;have aw:Aq w6 p T C:=Ar.text w (Aq.later O jq) d J hp;clear d;go_wp2;go_roundg (n - (k+1))
     case measure=>omega
     case rel=>exact ⟨k+1,L++[(ad,0,0)],rfl,jo,by go_num,by simp [hL],by rw [Gq];exact a,aw,av,fun x hx=>(by rcases jT.1 hx with D|D;exact I x D;(simp at D;subst D;exact ⟨ac,Cd,Cd⟩)),HJ⟩
    .have W:Hid (ZcA Z 0 q n B [] false):=HI.out.bad jo jv;clear HI t;go_wp2;go_ret2;exact ⟨_,[],_,T,C,rfl,o.alloc _,Aq.later O jq,D,⟨Or.inl ⟨rfl,rfl,rfl⟩,fun g H=>(by cases H)⟩,js,fun x hx=>(by simp at hx),W.out⟩
   .have a:=Ap.of_owns c;rw [<-hL] at a;have Q:Dz w.heap.size wr _ L:=⟨a,fun g H=>(World.ownsRow.lt c g H).1⟩;clear c a;have W:Hid (ZcA Z 0 q n B L true):=Zct.done (by have:=t.out;rwa [show k=n by omega] at this);clear t;go_wp2;go_ret2;exact ⟨_,L,_,T,_,rfl,o,O,D,Q,jo,I,W.out⟩
theorem ZeY (p:Nat) (n:Nat) (vB:ju) (B:List BK) (s:jt) (sh:Bool) (w:jj) (hs:s.size<=1099511627776) (ht:Aq w p s sh) (hp:p<w.heap.size) (hn:n<=65535) (hB:Am w vB B) (a5:B.length<=8) (q:Nat) (hq:(q=1/\B.length<=2)\/(q=2/\3<=B.length/\B.length<=4)\/(q=3/\5<=B.length)) (ak:∀g,vB.ownBlock=some g->g≠p) (hG:AH B):
  Calls Tryz.prog 98 #[.pointer (some ⟨p,0,none⟩),.int .i64 n,.bool true,vB] w (Zc5 w p s 64 q B n):=by
 have HG:=jp hG;clear hG;obtain ⟨Z,N⟩:∃Z,Z=Az s.data.toList:=⟨_,rfl⟩;unfold Zc5;rw [<-N];obtain ⟨i0,hi,al,am,an⟩:=info_parts Tryz.infoEN
 obtain ⟨ap,a4,rfl⟩:∃ao cap,vB= .slice ao B.length cap:=by
  rcases hB.form with ⟨rfl,rfl⟩|⟨g,cap,rfl,_⟩
  .exact ⟨_,_,rfl⟩
  .exact ⟨_,_,rfl⟩
 go_enter Tryz.func98,Tryz.ntmps98;have a6:1<=q/\q<=3:=jo
 have a7:(2:Int) ^ q<=8:=by rcases (show q=1\/q=2\/q=3 by omega) with rfl|rfl|rfl <;>decide
 obtain ⟨S,hS⟩:∃S,S=64+q:=⟨_,rfl⟩;have V:=jp hS;have W:S<=67/\q<=S/\64<=S:=jo
 obtain ⟨H,l⟩:∃H,H=n * S:=⟨_,rfl⟩;have aq:(n:Int) * (S:Int)=(H:Int):=by rw [l];push_cast;rfl
 have Y:H<=4390845:=by rw [l];exact jX (Nat.mul_le_mul hn W.1) ji
 have O:=jp l;have ar:(S:Int) - (q:Int)=64:=jo
 have P:(q:Int)+64=(S:Int):=jo
 clear hS l;go_upto_block 0 with fail
 go_cut [10] from 20 to 26 (fun v wc=>v= .int .i64 (q:Int)/\w=wc)
 case first=>
  clear V O W aq Y ar P;go_wp2_with fail;rcases hq with ⟨rfl,hl⟩|⟨rfl,hl⟩|⟨rfl,hl⟩
  .refine wp_loop_rounds 1 ?_;rw [rounds_succ];go_wp2;go_meet
   case rel=>exact ⟨rfl,rfl⟩
  .refine wp_loop_rounds 2 ?_;rw [rounds_succ];go_wp2_with fail;rw [rounds_succ];go_wp2;go_meet
   case rel=>exact ⟨rfl,rfl⟩
  .refine wp_loop_rounds 3 ?_;rw [rounds_succ];go_wp2_with fail;rw [rounds_succ];go_wp2_with fail;rw [rounds_succ];go_wp2;go_meet
   case rel=>exact ⟨rfl,rfl⟩
 case rest=>
 obtain ⟨rfl,rfl⟩:=hcut;clear hq;go_wp2_with fail
 try rw [P]
 clear P;refine (Zd0 p s sh _ hs ht).mono ?_;rintro e w1 ⟨v1,s1,C,rfl,aa,ab,z,rfl,D,rfl,au,hz,E⟩;rw [<-N] at E;clear N;have av:=jp E;have Q:Hid (Z.length=z.size):=by show _=_;rw [E,Zaf]
 clear E;by_cases I:z.size<H
 .have HF:Hid (ZcA Z 64 q n B [] false):=ZcA.few (by have:=Q.out;have:=O.out;rw [<-V.out];omega);go_wp2;go_ret2;exact ⟨_,[],_,s1,C,rfl,aa,ab,D,⟨Or.inl ⟨rfl,rfl,rfl⟩,fun g J=>(by cases J)⟩,js,fun x hx=>(by simp at hx),HF.out⟩
 .have a8:z.size<=8796093022208:=jo
  clear hz;skip;go_wp2_with fail;have HL:Hid (H<=z.size):=by have h:=I;show _<=_;omega
  clear I;go_loopg [13,14] n (fun g v i wr=>∃(k:Nat) (L:List EN),g=n - k/\k<=n/\i= .int .i64 k/\L.length=k/\wr.ownsRow w.heap.size 146 3 v k (Av L)/\Aq wr p s1 C/\Ar p w wr/\(∀x∈L,DZ B x)/\Hid (Zct Z 64 q k (L.map (Zai B))))
  case atStart=>exact ⟨0,[],jo,jo,rfl,rfl,World.ownsRow_nil _ _ _ _,ab,aa,fun x hx=>(by simp at hx),Zct.nil Z 64 q⟩
  case round=>
   obtain ⟨k,L,J,hk,rfl,hL,d,R,r,K,y⟩:=hrel;have a9:p<wr.heap.size:=jN hp r.size;have aw:=hB.but r ak;by_cases ba:k<n
   .obtain ⟨t,A⟩:∃t,t=k * S:=⟨_,rfl⟩;have bb:(k:Int) * (S:Int)=(t:Int):=by rw [A];push_cast;rfl
    have bc:t+S<=z.size:=by
     have D:H<=z.size:=HL.out;have h2:H=n * S:=O.out;have h3:=Nat.mul_le_mul_right S (show k+1<=n by omega);rw [Nat.succ_mul] at h3;omega
    have T:=jp A;clear A;go_upto_region 15 with fail
    have bd:(z.extract t (t+S)).size=S:=jx
    have a:=Bp au t (t+S);obtain ⟨X,hX⟩:∃X,X=(Z.drop (k * (64+q))).take (64+q):=⟨_,rfl⟩
    have HX:Hid (z.extract t (t+S)=Z8 X):=by
     show _=_;rw [av.out,Zdi,hX,<-V.out,<-T.out];simp
    have ac:Hid (X.length=S):=by
     show _=_;have be:Z.length=z.size:=Q.out;rw [hX,jk,jh,<-V.out,<-T.out];omega
    have ad:=jp hX;clear hX;generalize z.extract t (t+S)=x at *;go_wp2_with fail;refine (Fe _ _ jx (Bp a _ _)).mono ?_;rintro e w3 ⟨rfl,rfl⟩;have ae:=jp (Zdc HX.out 0 32)
    have ax:Af (Ba (x.extract 0 32).data.toList):=by
     have:=Dn _ (Bp a 0 32) 32 jx;exact ⟨this.1,by simpa using this.2⟩
    generalize Ba (x.extract 0 32).data.toList=F at *;go_wp2_with fail;refine (Fe _ _ jx (Bp a _ _)).mono ?_;rintro e w4 ⟨rfl,rfl⟩;have af:=jp (Zdc HX.out 32 64)
    have ay:Af (Ba (x.extract 32 64).data.toList):=by
     have:=Dn _ (Bp a 32 64) 32 jx;exact ⟨this.1,by simpa using this.2⟩
    generalize Ba (x.extract 32 64).data.toList=G at *;go_wp2_with fail;refine (Fe _ _ jx (Bp a _ _)).mono ?_;rintro e w5 ⟨rfl,rfl⟩;have ag:=jp (Zdc HX.out 64 S);clear HX;have az:0<=Ba (x.extract 64 S).data.toList:=(Dn _ (Bp a _ _) q jx).1;have a0:Ba (x.extract 64 S).data.toList<2 ^ q:=(Dn _ (Bp a _ _) q jx).2;generalize Ba (x.extract 64 S).data.toList=kk at *;have HI:Hid (Zct Z 64 q (k+1) (L.map (Zai B)++[(wv F G,kk)])):=y.out.item (by have:=Q.out;rw [<-V.out,<-T.out];omega) ad.out (Zee ae.out af.out (by have:=ac.out;omega)) (by have e:=ag.out;rwa [show S - 64=q by omega] at e);clear ag ad ac ae af;by_cases bf:kk<(B.length:Int)
    .obtain ⟨m,rfl⟩:=jM az;have o:m<B.length:=jo
     obtain ⟨g,a1,bg,ah⟩:∃g,ap=some ⟨g,0,none⟩/\wr.cell? ⟨g,m * 2,none⟩=some (.string B[m].1)/\g<wr.heap.size:=by
      rcases aw.form with ⟨_,rfl⟩|⟨g,cap,hv,_,ah,hc⟩
      .simp at o
      .simp only [Value.slice.injEq] at hv;exact ⟨g,hv.1,(hc m o).1,ah⟩
     subst a1;have ai:∃b∈B,b.1=B[m].1:=⟨B[m],jJ o,rfl⟩
     have HJ:Hid (Zct Z 64 q (k+1) ((L++[(B[m].1,F,G)]).map (Zai B))):=by
      show Zct _ _ _ _ _;rw [List.map_append,List.map_singleton,Zc7 HG.out o];exact HI.out
     clear HI y;generalize B[m].1=aj at *;clear a0;go_wp2_with (first|(at_builtin;refine wpList_append_own _ rfl _ _ 83 rfl w.heap.size 146 i0 (.agg #[.string ByteArray.empty,.int .i64 0,.int .i64 0]) 3 32 Tryz.underlying83 hi al am an rfl ji _ k (Av L) rfl ?o1 ⟨wr.heap.size+1,0,none⟩ 1 1 [.string aj,.int .i64 F,.int .i64 G] rfl rfl ?c1 ?c2 ?c3 ?c4 ?c5 ?_))
     case o1=>exact (d.alloc _).alloc _
     case c1=>exact FX _ _ _ _ _ _ js
     case c2=>intro u hu;simp at hu;rcases hu with rfl|rfl|rfl <;>rfl
     case c3=>unfold maxLen;omega
     case c4=>omega
     case c5=>have:=r.size;simp;omega
     intro v' w6 c f _;have M:=fun g J=>(d.lt g J).1
     have a2:Ar p w w6:=((r.alloc _).alloc _).grown f M;have a3:Aq w6 p s1 C:=Ar.text w (Aq.later R jq) f M hp;clear f;go_wp2;go_roundg (n - (k+1))
     case measure=>omega
     case rel=>exact ⟨k+1,L++[(aj,F,G)],rfl,jo,by go_num,by simp [hL],by rw [Gq];exact c,a3,a2,fun x hx=>(by rcases jT.1 hx with D|D;exact K x D;(simp at D;subst D;exact ⟨ai,ax,ay⟩)),HJ⟩
    .have HF:Hid (ZcA Z 64 q n B [] false):=HI.out.bad jo jv;clear HI y;go_wp2;go_ret2;exact ⟨_,[],_,s1,C,rfl,r.alloc _,Aq.later R jq,D,⟨Or.inl ⟨rfl,rfl,rfl⟩,fun g J=>(by cases J)⟩,js,fun x hx=>(by simp at hx),HF.out⟩
   .have c:=Ap.of_owns d;rw [<-hL] at c;have U:Dz w.heap.size wr _ L:=⟨c,fun g J=>(World.ownsRow.lt d g J).1⟩;clear d c;have HF:Hid (ZcA Z 64 q n B L true):=Zct.done (by have:=y.out;rwa [show k=n by omega] at this);clear y;go_wp2;go_ret2;exact ⟨_,L,_,s1,_,rfl,r,R,D,U,jo,K,HF.out⟩
theorem Zen (p:Nat) (n:Nat) (pb:Bool) (a:ju) (B:List BK) (s:jt) (sh:Bool) (w:jj) (f:s.size<=1099511627776) (i:Aq w p s sh) (k:p<w.heap.size) (l:n<=65535) (m:Am w a B) (b:∀g,a.ownBlock=some g->g≠p) (d:AH B):
  Calls Tryz.prog 98 #[.pointer (some ⟨p,0,none⟩),.int .i64 n,.bool pb,a] w (Zc5 w p s (if pb then 64 else 0) (Gf B.length) B n):=by
 have o:=d.1.1
 have c:((Gf B.length)=1/\B.length<=2)\/((Gf B.length)=2/\3<=B.length/\B.length<=4)\/((Gf B.length)=3/\5<=B.length):=by
  generalize B.length=n at *;rcases (show n=0\/n=1\/n=2\/n=3\/n=4\/n=5\/n=6\/n=7\/n=8 by omega) with rfl|rfl|rfl|rfl|rfl|rfl|rfl|rfl|rfl <;>decide
 cases pb
 .exact Zfx p n a B s sh w f i k l m o _ c b d
 .exact ZeY p n a B s sh w f i k l m o _ c b d
end Go.Proofs.YtpapdkhjdelfcaaGreat
