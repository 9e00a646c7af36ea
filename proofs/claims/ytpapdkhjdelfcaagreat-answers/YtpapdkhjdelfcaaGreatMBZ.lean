import Derived.Test.YtpapdkhjdelfcaaGreatMBY
namespace Go.Proofs.YtpapdkhjdelfcaaGreat
open Go.RowKit
set_option maxRecDepth 100000
set_option maxHeartbeats 4000000
set_option linter.unusedVariables false
theorem Zfu {a b:jy} (h:Bj b=none):DH a b=([],9):=by
 unfold DH;rw [h]
theorem ZeT (H:Aw) (s:Nat) (x:WG) (A B C:Int) (S:jt) (w:jj) (h:Ao H s x w) (hs:s<=150000) (hA:Aj A) (hB:Aj B):
  Calls Tryz.prog 33 #[.pointer (some ⟨x.p,0,none⟩),AB 24 A B C S] w (Hg H x.p (s+1)):=by
 have U:=fun f (b:Aa w f)=>FI H s x A f (h.later b) hs hA
 have V:=fun f (b:Aa w f)=>FI H s x B f (h.later b) hs hB
 have g:=fun (t:jt) (ht:t.size<=16777216) f (b:Aa w f)=>No H s x t f w h b hs jo
 have i:Hid (∀f,Aa w f->Hg H x.p (s+1) (.returned (.bool true)) f):=fun f hb=>⟨rfl,x,(h.later hb).up jo,rfl⟩
 generalize x.p=p at *;clear h;have ak:∀f,Aa w f->w.heap.size<=f.heap.size:=fun f b=>b.size
 unfold AB;go_enter Tryz.func33,Tryz.ntmps33;go_wp2_with fail;obtain ⟨wo,W,I,o0,o1,o2,o3,o4⟩:=BV w (.int .i64 24) (.int .i64 A) (.int .i64 B) (.int .i64 C) (.string S) 28;rw [W];clear W;generalize al:w.heap.size=po at o0 o1 o2 o3 o4 |-;clear al;refine (U _ I).mono ?_;rintro e w1 ⟨a,rfl,r,J⟩;have q2:=r.cell o2;have q0:=r.cell o0;have k:=I.trans r;clear U o0 o1 o2 o3 o4 r I;go_wp2_with fail;refine (V _ k).mono ?_;rintro e w2 ⟨b,rfl,K,X⟩;have r0:=K.cell q0;have z:=k.trans K;clear V q0 q2 K;go_wp2_with fail;refine (Zc1 a w2 J).mono ?_;rintro e w3 ⟨vx,fx,a0,rfl,L, -,hx⟩;have r1:=L.cell r0;have l:=z.trans L;clear r0;go_wp2_with fail;refine (Zc1 b w3 X).mono ?_;rintro e w4 ⟨vy,fy,M,rfl,N,O,hy⟩;have r2:=N.cell r1;have D:=l.trans N;have Y:M=true->ZcE w.heap.size vy w4 b.data.toList:=fun e=>ZcE.mk (hy e) (jD _) l.size
 clear r1 hx hy N L k z l ak;go_wp2_with fail;obtain ⟨n,c⟩:∃n,n=Ai (DH a.data.toList b.data.toList).1:=⟨_,rfl⟩;obtain ⟨E,d⟩:∃E,E=(DH a.data.toList b.data.toList).2:=⟨_,rfl⟩;have am:n.size<=16777216:=by rw [c,NG];exact Rb _ _
 refine ((QE a b _ J X).mono (fun e w' hr=>(show e= .returned (.tuple #[.string n,.int .i64 E])/\Aa w4 w' from by rw [c,d];exact hr))).mono ?_;rintro e W5 ⟨rfl,u⟩;have r3:=u.cell r2;have F:=D.trans u;have P:M=true->ZcE w.heap.size vy W5 b.data.toList:=fun e=>(Y e).later u
 have g:=g n am;clear r2 D Y u;cases M
 .have Z:DH a.data.toList b.data.toList=([],9):=Zfu (O rfl);rw [Z] at c d;obtain rfl:n=ByteArray.empty:=c;obtain rfl:E=9:=d;clear P g O Z;go_wp2
  all_goals
   go_ret;exact i.out _ jq
 .obtain ⟨py,cy,gy,By,Ey,f2,rfl,aa,ab,ac,a1,an,ao,Q⟩:=P rfl;have ap:Ey.length<=65535:=by have:=(Hp Q).len;rw [je] at this;omega
  have ad:=Zfb a b.data.toList py cy gy By Ey W5 J aa.state ab ac ap ⟨⟨_,Q⟩,ao,ab.2.2.2.2.1,ac⟩ jo;have v:=jp c;have y:=jp d;clear P aa O Q an c d;go_wp2_with fail;refine ad.mono ?_;rintro e w6 ⟨vm,R,rfl,aq,T,hm⟩;have ae:=F.trans aq;clear ad;by_cases he:R=0
  .subst he;obtain ⟨q,ar,Bm,Em,rfl,af,au,av,aw,o⟩:=hm rfl;have c:=v.out;have d:=y.out;rw [o] at c d;clear v y;obtain rfl:E=0:=d;have G:=af.from F.size
   have ag:=jp G;have ah:=jp c;clear hm af G T o c;go_wp2_with fail;refine (g _ ae).mono ?_;rintro e w7 ⟨rfl,⟨ax,h2,ay⟩,ai⟩;have aj:=(Zbg q cy ar Bm Em 1 w7 (ag.out.kept ai).state au ⟨ji,ji⟩ av ⟨ji,ji⟩ aw).mono (fun e w' hr=>(show En w7 (TQ n) e w' from by rw [ah.out];exact hr));have a2:(n.toList==n.toList)=true:=FE.2 rfl;have H2:Hid (∀f,Aa w7 f->Hg H p (s+1) (.returned (.bool true)) f):=fun f hb=>⟨rfl,ax,h2.later hb,ay⟩
   clear h2 ai ag g i ah;go_wp2_with fail;refine aj.mono ?_;rintro e w8 ⟨m,rfl,a3,az⟩;obtain rfl:m=n:=az;clear aj;go_wp2
   all_goals
    go_ret;exact H2.out _ jq
  .have a4:(R !=0)=true:=by rw [bne_iff_ne];exact he
   have o:=T he;have c:=v.out;have d:=y.out;rw [o] at c d;clear v y;obtain rfl:n=ByteArray.empty:=c;obtain rfl:E=R:=d;have a5:(E==E)=true:=js
   clear hm g T o;go_wp2
   all_goals
    go_ret;exact i.out _ jq
theorem VB (v:ju) (w:jj):Calls Tryz.prog 36 #[v] w fun e w'=>e= .returned (.tuple #[])/\w=w':=by
 go_enter Tryz.func36,Tryz.ntmps36;go_wp2;go_end0;exact ⟨rfl,rfl⟩
theorem Fi.step {a:Aw} {s:Nat} {x:WG} {w d:jj} (h:Ao a s x w) (b:Aa w d) (g:s<=69999) (j:Nat) (c:j<x.prs.length) {e:Ending} {w':jj} (f:Fi a.heap.size x.M x.prs[j] d e w'):Hg a x.p (s+1) e w':=
 ⟨f.1,(h.later b).rpr j c (f.rpr ((h.later b).dpre j c g) (h.even j c))⟩
theorem IX.step {a:Aw} {s:Nat} {x:WG} {w c:jj} (h:Ao a s x w) (b:Aa w c) (j:Nat) (f:j<x.prs.length) {e:Ending} {w':jj} (d:IX a.heap.size x.M x.prs[j] c e w'):Hg a x.p (s+1) e w':=
 ⟨d.1,(h.later b).rpr j f d.2⟩
theorem Rt (c:Aw) (s:Nat) (x:WG) (k A B C:Int) (S:jt) (w:jj) (h:Ao c s x w) (m:s<=69999) (g:Aj A) (i:Aj B) (l:Aj C) (n:S.size<=65536) (d:k=1\/k=2\/k=18\/k=19\/k=20\/k=21\/k=25):
  Calls Tryz.prog 22 #[.pointer (some ⟨x.p,0,none⟩),AB k A B C S] w (Hg c x.p (s+1)):=by
 have a:=fun f (b:Aa w f)=>S7 c s x k A B C S f (h.later b) jo g i l jo d
 generalize x.p=p at *;clear h d;unfold AB at *;go_enter Tryz.func22,Tryz.ntmps22;go_wp2_with fail;refine (a _ jq).mono ?_;rintro e o ⟨rfl,hx⟩;have HX:=jp hx;clear hx a;go_wp2;go_ret;exact ⟨rfl,HX.out⟩
theorem step_new (k:Aw) (s:Nat) (x:WG) (A B C:Int) (S:jt) (w:jj) (h:Ao k s x w) (u:s<=69999) (v:Aj A) (y:Aj B) (z:Aj C) (D:S.size<=65536):
  Calls Tryz.prog 22 #[.pointer (some ⟨x.p,0,none⟩),AB 3 A B C S] w (Hg k x.p (s+1)):=by
 have c:=fun l=>Gu x.p 3 A B C S l js
 have d:=fun l (b:Aa w l)=>(Y9 k s x l (h.later b) jo).mono (fun e w' n=>(show Hg k x.p (s+1) e w' from ⟨n.1,n.2⟩))
 generalize x.p=p at *;clear h;unfold AB at *;go_enter Tryz.func22,Tryz.ntmps22;go_wp2_with fail;obtain ⟨wo,f,g,m,o,q,r,t⟩:=BV w (.int .i64 3) (.int .i64 A) (.int .i64 B) (.int .i64 C) (.string S) 28;rw [f];clear f;generalize w.heap.size=E at m o q r t |-;refine (c _).mono ?_;rintro e F ⟨rfl,a⟩;have G:=a.cell m;have i:=g.trans a;clear c g a m o q r t;go_wp2_with fail;refine (d _ i).mono ?_;rintro e H ⟨rfl,hx⟩;have HX:=jp hx;clear hx d;go_wp2;go_ret;exact ⟨rfl,HX.out⟩
theorem Rn (l:Aw) (s:Nat) (x:WG) (A B C:Int) (S:jt) (w:jj) (h:Ao l s x w) (v:s<=69999) (t:Aj A) (u:Aj B) (y:Aj C) (z:S.size<=65536):
  Calls Tryz.prog 22 #[.pointer (some ⟨x.p,0,none⟩),AB 22 A B C S] w (Hg l x.p (s+1)):=by
 have c:=fun k=>Gu x.p 22 A B C S k js
 have d:=fun k (b:Aa w k)=>Zd4 l s x A B C S k (h.later b) jo t u
 generalize x.p=p at *;clear h;unfold AB at *;go_enter Tryz.func22,Tryz.ntmps22;go_wp2_with fail;obtain ⟨wo,f,g,m,n,o,q,r⟩:=BV w (.int .i64 22) (.int .i64 A) (.int .i64 B) (.int .i64 C) (.string S) 28;rw [f];clear f;generalize w.heap.size=D at m n o q r |-;refine (c _).mono ?_;rintro e E ⟨rfl,a⟩;have F:=a.cell m;have G:=a.cell n;have H:=a.cell o;have I:=a.cell q;have J:=a.cell r;have i:=g.trans a;clear c g a m n o q r;go_wp2_with fail;refine (d _ i).mono ?_;rintro e K ⟨rfl,hx⟩;have HX:=jp hx;clear hx d;go_wp2;go_ret;exact ⟨rfl,HX.out⟩
theorem TR (l:Aw) (s:Nat) (x:WG) (A B C:Int) (S:jt) (w:jj) (h:Ao l s x w) (v:s<=69999) (t:Aj A) (u:Aj B) (y:Aj C) (z:S.size<=65536):
  Calls Tryz.prog 22 #[.pointer (some ⟨x.p,0,none⟩),AB 23 A B C S] w (Hg l x.p (s+1)):=by
 have c:=fun k=>Gu x.p 23 A B C S k js
 have d:=fun k (b:Aa w k)=>ZeR l s x A B C S k (h.later b) jo t u
 generalize x.p=p at *;clear h;unfold AB at *;go_enter Tryz.func22,Tryz.ntmps22;go_wp2_with fail;obtain ⟨wo,f,g,m,n,o,q,r⟩:=BV w (.int .i64 23) (.int .i64 A) (.int .i64 B) (.int .i64 C) (.string S) 28;rw [f];clear f;generalize w.heap.size=D at m n o q r |-;refine (c _).mono ?_;rintro e E ⟨rfl,a⟩;have F:=a.cell m;have G:=a.cell n;have H:=a.cell o;have I:=a.cell q;have J:=a.cell r;have i:=g.trans a;clear c g a m n o q r;go_wp2_with fail;refine (d _ i).mono ?_;rintro e K ⟨rfl,hx⟩;have HX:=jp hx;clear hx d;go_wp2;go_ret;exact ⟨rfl,HX.out⟩
theorem Us (l:Aw) (s:Nat) (x:WG) (A B C:Int) (S:jt) (w:jj) (h:Ao l s x w) (v:s<=69999) (t:Aj A) (u:Aj B) (y:Aj C) (z:S.size<=65536):
  Calls Tryz.prog 22 #[.pointer (some ⟨x.p,0,none⟩),AB 24 A B C S] w (Hg l x.p (s+1)):=by
 have c:=fun k=>Gu x.p 24 A B C S k js
 have d:=fun k (b:Aa w k)=>ZeT l s x A B C S k (h.later b) jo t u
 generalize x.p=p at *;clear h;unfold AB at *;go_enter Tryz.func22,Tryz.ntmps22;go_wp2_with fail;obtain ⟨wo,f,g,m,n,o,q,r⟩:=BV w (.int .i64 24) (.int .i64 A) (.int .i64 B) (.int .i64 C) (.string S) 28;rw [f];clear f;generalize w.heap.size=D at m n o q r |-;refine (c _).mono ?_;rintro e E ⟨rfl,a⟩;have F:=a.cell m;have G:=a.cell n;have H:=a.cell o;have I:=a.cell q;have J:=a.cell r;have i:=g.trans a;clear c g a m n o q r;go_wp2_with fail;refine (d _ i).mono ?_;rintro e K ⟨rfl,hx⟩;have HX:=jp hx;clear hx d;go_wp2;go_ret;exact ⟨rfl,HX.out⟩
theorem Fc (i:Aw) (s:Nat) (x:WG) (k A B C:Int) (S:jt) (w:jj) (h:Ao i s x w) (z:s<=69999) (hA:Aj A) (hB:Aj B) (hC:Aj C) (hS:S.size<=65536) (hk:k=4\/k=5\/k=6\/k=8\/k=9\/k=10\/k=11\/k=12\/k=14\/k=15\/k=16\/k=17):
  Calls Tryz.prog 22 #[.pointer (some ⟨x.p,0,none⟩),AB k A B C S] w (Hg i x.p (s+1)):=by
 have K:=fun a=>Gu x.p k A B C S a ⟨jo,jo,jo,jo,jo,jo,jo⟩
 have L:Hid (∀a,Aa w a->Hg i x.p (s+1) (.returned (.bool true)) a):=fun a hb=>⟨rfl,x,(h.later hb).up jo,rfl⟩
 have P:=h.1.1 6 _ rfl;by_cases Y:x.prs.length=0
 .obtain ⟨ao,cap,Z⟩:=CP h.2.2.2.2.2.2.1;rw [Z,Y] at P;generalize x.p=p at *;clear h;unfold AB at *;go_enter Tryz.func22,Tryz.ntmps22;go_wp2_with fail;obtain ⟨wo,D,f,N,Q,R,T,U⟩:=BV w (.int .i64 k) (.int .i64 A) (.int .i64 B) (.int .i64 C) (.string S) 28;rw [D];clear D;generalize w.heap.size=po at N Q R T U |-;have V:=f.cell P;refine (K _).mono ?_;rintro e w1 ⟨rfl,d⟩;have j0:=d.cell N;have j6:=d.cell V;have W:=f.trans d;clear K f d N Q R T U V P;rcases hk with rfl|rfl|rfl|rfl|rfl|rfl|rfl|rfl|rfl|rfl|rfl|rfl
  all_goals
   go_wp2;go_ret;exact L.out _ jq
 .have aa:((x.prs.length:Int)==0)=false:=by rw [jI];omega
  obtain ⟨g,cap,Z,E⟩:=h.pick jo;have ab:=h.2.2.2.2.2.2.2.2.2.2.2.1.1;have X:=fun a=>FJ A x.prs.length a hA jo jo
  obtain ⟨r1,r2⟩:=FQ A x.prs.length jo;obtain ⟨m,hm⟩:=jM r1;rw [hm] at X;have c:m<x.prs.length:=jo
  have cm:=E m c;rw [Z] at P;have F:=fun a (b:Aa w a)=>(L8 i.heap.size x.M x.prs[m] 4 A B C S a ((h.later b).dpre m c z) (by unfold maxLen;omega) jo).mono (fun e w' O=>Fi.step h b z m c O)
  have G:=fun a (b:Aa w a)=>(L8 i.heap.size x.M x.prs[m] 5 A B C S a ((h.later b).dpre m c z) (by unfold maxLen;omega) jo).mono (fun e w' O=>Fi.step h b z m c O)
  have H:=fun a (b:Aa w a)=>(L8 i.heap.size x.M x.prs[m] 6 A B C S a ((h.later b).dpre m c z) (by unfold maxLen;omega) jo).mono (fun e w' O=>Fi.step h b z m c O)
  have I:=fun a (b:Aa w a)=>Zbw i s x m c A B C S a (h.later b) jo hB
  have J:=fun a (b:Aa w a)=>WF i s x m c A B C S a (h.later b) jo
  have l:=fun a (b:Aa w a)=>R3 i s x m c A B C S a (h.later b) hS
  have o:=fun a (b:Aa w a)=>(TN i.heap.size x.M x.prs[m] B a ((h.later b).dpre m c z) (h.even m c) (h.later b).2.1.size).mono (fun e w' O=>IX.step h b m c O)
  have q:=fun a (b:Aa w a)=>Q3 i s x m c A B C S a (h.later b) z
  have r:=fun a (b:Aa w a)=>Wp i s x m c A B C S a (h.later b) z hC
  have t:=fun a (b:Aa w a)=>Xz i s x m c A B C S a (h.later b) z
  have u:=fun a (b:Aa w a)=>WA i s x m c A B C S a (h.later b) z
  have v:=fun a (b:Aa w a)=>Sz i s x m c A B C S a (h.later b) z hS
  clear h E r1 r2 hm;generalize x.prs[m]=y at *;generalize x.M=M0 at *;generalize x.p=p at *;generalize x.prs.length=n at *;unfold AB at *;go_enter Tryz.func22,Tryz.ntmps22;go_wp2_with fail;obtain ⟨wo,D,f,N,Q,R,T,U⟩:=BV w (.int .i64 k) (.int .i64 A) (.int .i64 B) (.int .i64 C) (.string S) 28;rw [D];clear D;generalize w.heap.size=po at N Q R T U |-;have V:=f.cell P;have km:=f.cell cm;refine (K _).mono ?_;rintro e w1 ⟨rfl,d⟩;have j0:=d.cell N;have j1:=d.cell Q;have j2:=d.cell R;have j3:=d.cell T;have j4:=d.cell U;have j6:=d.cell V;have jm:=d.cell km;have W:=f.trans d;clear K f d N Q R T U V P km cm L;rcases hk with rfl|rfl|rfl|rfl|rfl|rfl|rfl|rfl|rfl|rfl|rfl|rfl
  all_goals
   go_wp2_with fail;go_quiet ((go_at_call 34;refine Calls.quiet_of_same ((X _).mono fun e w2 h=>⟨h.1,h.2.symm⟩)));go_wp2_with fail
  refine (F _ jq).mono ?_
  rotate_left
  refine (G _ jq).mono ?_
  rotate_left
  refine (H _ jq).mono ?_
  rotate_left
  refine (I _ jq).mono ?_
  rotate_left
  refine (J _ jq).mono ?_
  rotate_left
  refine (l _ jq).mono ?_
  rotate_left
  refine (o _ jq).mono ?_
  rotate_left
  refine (q _ jq).mono ?_
  rotate_left
  refine (r _ jq).mono ?_
  rotate_left
  refine (t _ jq).mono ?_
  rotate_left
  refine (u _ jq).mono ?_
  rotate_left
  refine (v _ jq).mono ?_
  rotate_left
  all_goals
   rintro e w2 ⟨rfl,hx⟩;have HX:=jp hx;clear hx F G H I J l o q r t u v;go_wp2;go_ret;exact ⟨rfl,HX.out⟩
theorem VU (F:Aw) (s:Nat) (x:WG) (A B C:Int) (S:jt) (w:jj) (h:Ao F s x w) (Z:s<=69999) (O:Aj A) (hB:Aj B) (hC:Aj C) (hS:S.size<=65536):
  Calls Tryz.prog 22 #[.pointer (some ⟨x.p,0,none⟩),AB 7 A B C S] w (Hg F x.p (s+1)):=by
 have f:=fun l=>Gu x.p 7 A B C S l js
 have i:Hid (∀l,Aa w l->Hg F x.p (s+1) (.returned (.bool true)) l):=fun l P=>⟨rfl,x,(h.later P).up jo,rfl⟩
 have q:=h.1.1 6 _ rfl;by_cases G:x.prs.length=0
 .obtain ⟨ao,cap,H⟩:=CP h.2.2.2.2.2.2.1;rw [H,G] at q;generalize x.p=p at *;clear h;unfold AB at *;go_enter Tryz.func22,Tryz.ntmps22;go_wp2_with fail;obtain ⟨wo,c,b,o,r,t,u,v⟩:=BV w (.int .i64 7) (.int .i64 A) (.int .i64 B) (.int .i64 C) (.string S) 28;rw [c];clear c;generalize w.heap.size=Q at o r t u v |-;have z:=b.cell q;refine (f _).mono ?_;rintro e R ⟨rfl,a⟩;have T:=a.cell o;have U:=a.cell z;have k:=b.trans a;clear f b a o r t u v z q;go_wp2;go_ret;exact i.out _ jq
 .have V:((x.prs.length:Int)==0)=false:=by rw [jI];omega
  obtain ⟨g,cap,H,d⟩:=h.pick jo;have W:=h.2.2.2.2.2.2.2.2.2.2.2.1.1;have D:=fun l=>FJ A x.prs.length l O jo jo
  obtain ⟨J,X⟩:=FQ A x.prs.length jo;obtain ⟨m,K⟩:=jM J;rw [K] at D;have E:m<x.prs.length:=jo
  have L:=d m E;rw [H] at q;have I:=(h.pair_at m E).1.1 0 _ rfl;clear h d J X K;generalize x.prs[m]=y at *;generalize x.M=M0 at *;generalize x.p=p at *;generalize x.prs.length=n at *;unfold AB at *;go_enter Tryz.func22,Tryz.ntmps22;go_wp2_with fail;obtain ⟨wo,c,b,o,r,t,u,v⟩:=BV w (.int .i64 7) (.int .i64 A) (.int .i64 B) (.int .i64 C) (.string S) 28;rw [c];clear c;generalize w.heap.size=Q at o r t u v |-;have z:=b.cell q;have N:=b.cell L;refine (f _).mono ?_;rintro e R ⟨rfl,a⟩;have T:=a.cell o;have j1:=a.cell r;have j2:=a.cell t;have j3:=a.cell u;have j4:=a.cell v;have U:=a.cell z;have jm:=a.cell N;have k:=b.trans a;clear f b a o r t u v z q N L;go_wp2_with fail;go_quiet ((go_at_call 34;refine Calls.quiet_of_same ((D _).mono fun e Y h=>⟨h.1,h.2.symm⟩)));have d0:=k.cell I;go_wp2_with fail;refine (VB _ _).mono ?_;rintro e Y ⟨rfl,rfl⟩;go_wp2;go_ret;exact i.out _ jq
theorem WN (X:Aw) (s:Nat) (x:WG) (A B C:Int) (S:jt) (w:jj) (h:Ao X s x w) (hs:s<=69999) (hA:Aj A) (hB:Aj B) (hC:Aj C) (hS:S.size<=65536):
  Calls Tryz.prog 22 #[.pointer (some ⟨x.p,0,none⟩),AB 13 A B C S] w (Hg X x.p (s+1)):=by
 have J:=fun i=>Gu x.p 13 A B C S i js
 have D:Hid (∀i,Aa w i->Hg X x.p (s+1) (.returned (.bool true)) i):=fun i hb=>⟨rfl,x,(h.later hb).up jo,rfl⟩
 have Y:=h.1.1 6 _ rfl;by_cases ag:x.prs.length=0
 .obtain ⟨ao,cap,hv⟩:=CP h.2.2.2.2.2.2.1;rw [hv,ag] at Y;generalize x.p=p at *;clear h;unfold AB at *;go_enter Tryz.func22,Tryz.ntmps22;go_wp2_with fail;obtain ⟨wo,E,l,R,Z,o2,o3,o4⟩:=BV w (.int .i64 13) (.int .i64 A) (.int .i64 B) (.int .i64 C) (.string S) 28;rw [E];clear E;generalize w.heap.size=po at R Z o2 o3 o4 |-;have k6:=l.cell Y;refine (J _).mono ?_;rintro e w1 ⟨rfl,k⟩;have j0:=k.cell R;have j6:=k.cell k6;have o:=l.trans k;clear J l k R Z o2 o3 o4 k6 Y;go_wp2;go_ret;exact D.out _ jq
 .have aq:((x.prs.length:Int)==0)=false:=by rw [jI];omega
  obtain ⟨g,cap,hv,F⟩:=h.pick jo;have ar:=h.2.2.2.2.2.2.2.2.2.2.2.1.1;have aa:=fun i=>FJ A x.prs.length i hA jo jo
  obtain ⟨r1,r2⟩:=FQ A x.prs.length jo;obtain ⟨m,hm⟩:=jM r1;rw [hm] at aa;have T:m<x.prs.length:=jo
  have cm:=F m T;rw [hv] at Y;have N:=fun i (b:Aa w i)=>FI X s x B i (h.later b) jo hB
  have d:=h.pair_at m T;have ah:=d.1.1 0 _ rfl;have ai:=d.1.1 8 _ rfl;have aj:=d.1.1 6 _ rfl;have U:=d.2.2.2.2.2.2.1.unmask;have V:=Je (x.prs[m]).c (x.prs[m]).B d.2.2.2.2.1 d.2.2.2.1.1;have O:=fun (t:jt) (ht:t.size<=1099511627776) i (b:Aa w i)=>Uq x.M (x.prs[m]).q (x.prs[m]).c (x.prs[m]).B (x.prs[m]).g.toNat t i (by have:=d.2.1.later b;rw [Int.toNat_of_nonneg d.2.2.2.2.2.1.1];exact this) V d.2.2.2.2.1 d.2.2.2.1.1 (by have:=d.2.2.2.2.2.1.2.1;omega) ht
  have r:=fun (f:jt) i (b:Aa w i)=>LH X s x m T (Ai (GO (x.prs[m]).c.formats.toNat (x.prs[m]).g.toNat (x.prs[m]).c (x.prs[m]).B (An (x.prs[m]).c (x.prs[m]).B) f.data.toList)) i (h.later b) jo (by rw [NG];have:=Tq (x.prs[m]).c.formats.toNat (x.prs[m]).g.toNat (x.prs[m]).c (x.prs[m]).B (An (x.prs[m]).c (x.prs[m]).B) f.data.toList;omega)
  have G:=d.2.2.2.1;have ab:0<=(x.prs[m]).g/\(x.prs[m]).g<=70000:=⟨d.2.2.2.2.2.1.1,d.2.2.2.2.2.1.2.1⟩;have ac:0<=(x.prs[m]).c.formats:=by have:=d.2.2.2.2.1.2.2.2.2.2.2.2.2.2.2.1;omega
  have ad:(x.prs[m]).c.formats<=3:=d.2.2.2.2.1.2.2.2.2.2.2.2.2.2.2.2;have P:=fun (f:jt) (hf:f.size<=1099511627776) i (hv:DQ i (x.prs[m]).vs (x.prs[m]).c (x.prs[m]).B (x.prs[m]).g)=>Zcl (x.prs[m]).vs (x.prs[m]).c (x.prs[m]).B (x.prs[m]).g (x.prs[m]).c.formats f i hv G ab V ac ad hf
  clear d V G ab;clear h F r1 r2 hm;generalize x.prs[m]=y at *;generalize x.M=M0 at *;generalize x.p=p at *;generalize x.prs.length=n at *;unfold AB at *;go_enter Tryz.func22,Tryz.ntmps22;go_wp2_with fail;obtain ⟨wo,E,l,R,Z,o2,o3,o4⟩:=BV w (.int .i64 13) (.int .i64 A) (.int .i64 B) (.int .i64 C) (.string S) 28;rw [E];clear E;generalize w.heap.size=po at R Z o2 o3 o4 |-;have k6:=l.cell Y;have km:=l.cell cm;refine (J _).mono ?_;rintro e w1 ⟨rfl,k⟩;have j0:=k.cell R;have j1:=k.cell Z;have j2:=k.cell o2;have j3:=k.cell o3;have j4:=k.cell o4;have j6:=k.cell k6;have jm:=k.cell km;have o:=l.trans k;clear J l k R Z o2 o3 o4 k6 Y km cm;go_wp2_with fail;go_quiet ((go_at_call 34;refine Calls.quiet_of_same ((aa _).mono fun e w2 h=>⟨h.1,h.2.symm⟩)));have d0:=o.cell ah;have d8:=o.cell ai;have d6:=o.cell aj;have au:y.a<w1.heap.size:=jF d0;go_wp2_with fail;refine (N _ jq).mono ?_;rintro e w2 ⟨f,rfl,ak,ae⟩;have v:Aa w1 w2:=jq
  have af:=o.trans v;have e0:=v.cell d0;have e8:=v.cell d8;have e6:=v.cell d6;clear N ak d0 d8 d6;go_wp2_with fail;refine (O f ae _ jq).mono ?_;rintro e w3 ⟨rfl,al⟩;have z:Aa w2 w3:=jq
  have Q:=af.trans z;have f8:=z.cell e8;have f6:=z.cell e6;have r:=r f;have K:=P f ae;generalize Ai (GO y.c.formats.toNat y.g.toNat y.c y.B (An y.c y.B) f.data.toList)=t3 at *;have av:(t3.toList==t3.toList)=true:=FE.2 rfl;clear al z e0 e8 e6 O P;cases aw:t3.toList.isEmpty
  .go_wp2_with fail;refine (r _ jq).mono ?_;rintro e W4 ⟨rfl,⟨x2,h2,am,L⟩, -⟩;have g8:=L.1.1 8 _ rfl;have g6:=L.1.1 6 _ rfl;have u:=fun i (b:Aa W4 i)=>K i (L.2.2.2.2.2.2.1.unmask.later b)
   have H2:Hid (∀i,Aa W4 i->Hg X p (s+1) (.returned (.bool true)) i):=fun i hb=>⟨rfl,x2,h2.later hb,am⟩
   clear h2 L r U D f8 f6 K;go_wp2_with fail;go_region_held3 (fun w'=>Aa W4 w'/\w'.cell? ⟨y.a,8,none⟩=some y.vs/\w'.cell? ⟨y.a,6,none⟩=some (.int .i64 y.c.formats)) ((exact ⟨jq,Aa.cell (a:=W4) jq g8,Aa.cell (a:=W4) jq g6⟩)) ((go_at_call 42;refine (u _ jq).mono ?_;rintro e w4 ⟨m4,rfl,W,H⟩;have an:m4=t3:=H;clear H;subst m4));have I:Aa W4 w4:=jq
   clear W u;go_wp2
   all_goals
    go_ret;exact H2.out _ jq
  .clear r;have u:=fun i (b:Aa w3 i)=>K i (U.later (Q.trans b))
   clear K U;go_wp2_with fail;go_region_held3 (fun w'=>Aa w3 w'/\w'.cell? ⟨y.a,8,none⟩=some y.vs/\w'.cell? ⟨y.a,6,none⟩=some (.int .i64 y.c.formats)) ((exact ⟨jq,Aa.cell (a:=w3) jq f8,Aa.cell (a:=w3) jq f6⟩)) ((go_at_call 42;refine (u _ jq).mono ?_;rintro e w4 ⟨m4,rfl,W,H⟩;have an:m4=t3:=H;clear H;subst m4));have I:Aa w3 w4:=jq
   have ap:=Q.trans I;clear W I u;go_wp2
   all_goals
    go_ret;exact D.out _ jq
theorem UU (Y:Aw) (s:Nat) (x:WG) (k A B C:Int) (S:jt) (w:jj) (h:Ao Y s x w) (hs:s<=69999) (hA:Aj A) (hB:Aj B) (hC:Aj C) (hS:S.size<=65536) (i:k≠1/\k≠2/\k≠3/\k≠4/\k≠5/\k≠6/\k≠7/\k≠8/\k≠9/\k≠10/\k≠11/\k≠12/\k≠13/\k≠14/\k≠15/\k≠16/\k≠17/\k≠18/\k≠19/\k≠20/\k≠21/\k≠22/\k≠23/\k≠24/\k≠25):
  Calls Tryz.prog 22 #[.pointer (some ⟨x.p,0,none⟩),AB k A B C S] w (Hg Y x.p (s+1)):=by
 have f:=fun o=>Gu x.p k A B C S o ⟨i.1,i.2.1,i.2.2.2.2.2.2.2.2.2.2.2.2.2.2.2.2.2.1,i.2.2.2.2.2.2.2.2.2.2.2.2.2.2.2.2.2.2.1,i.2.2.2.2.2.2.2.2.2.2.2.2.2.2.2.2.2.2.2.1,i.2.2.2.2.2.2.2.2.2.2.2.2.2.2.2.2.2.2.2.2.1,i.2.2.2.2.2.2.2.2.2.2.2.2.2.2.2.2.2.2.2.2.2.2.2.2⟩
 obtain ⟨q1,q2,q3,q4,q5,q6,q7,q8,q9,D,E,F,G,H,I,J,K,L,N,O,P,Q,R,T,U⟩:=i;have z1:(k==1)=false:=by rw [jI];exact q1
 have z2:(k==2)=false:=by rw [jI];exact q2
 have z3:(k==3)=false:=by rw [jI];exact q3
 have z4:(k==4)=false:=by rw [jI];exact q4
 have z5:(k==5)=false:=by rw [jI];exact q5
 have z6:(k==6)=false:=by rw [jI];exact q6
 have z7:(k==7)=false:=by rw [jI];exact q7
 have z8:(k==8)=false:=by rw [jI];exact q8
 have z9:(k==9)=false:=by rw [jI];exact q9
 have ab:(k==10)=false:=by rw [jI];exact D
 have ac:(k==11)=false:=by rw [jI];exact E
 have ad:(k==12)=false:=by rw [jI];exact F
 have ae:(k==13)=false:=by rw [jI];exact G
 have af:(k==14)=false:=by rw [jI];exact H
 have ag:(k==15)=false:=by rw [jI];exact I
 have ah:(k==16)=false:=by rw [jI];exact J
 have ai:(k==17)=false:=by rw [jI];exact K
 have aj:(k==18)=false:=by rw [jI];exact L
 have ak:(k==19)=false:=by rw [jI];exact N
 have al:(k==20)=false:=by rw [jI];exact O
 have am:(k==21)=false:=by rw [jI];exact P
 have an:(k==22)=false:=by rw [jI];exact Q
 have ap:(k==23)=false:=by rw [jI];exact R
 have aq:(k==24)=false:=by rw [jI];exact T
 have ar:(k==25)=false:=by rw [jI];exact U
 clear q1 q2 q3 q4 q5 q6 q7 q8 q9 D E F G H I J K L N O P Q R T U;have l:Hid (∀o,Aa w o->Hg Y x.p (s+1) (.returned (.bool true)) o):=fun o hb=>⟨rfl,x,(h.later hb).up jo,rfl⟩
 have r:=h.1.1 6 _ rfl;by_cases Z:x.prs.length=0
 .obtain ⟨ao,cap,hv⟩:=CP h.2.2.2.2.2.2.1;rw [hv,Z] at r;generalize x.p=p at *;clear h;unfold AB at *;go_enter Tryz.func22,Tryz.ntmps22;go_wp2_with fail;obtain ⟨wo,c,b,q,t,u,v,z⟩:=BV w (.int .i64 k) (.int .i64 A) (.int .i64 B) (.int .i64 C) (.string S) 28;rw [c];clear c;generalize w.heap.size=po at q t u v z |-;have V:=b.cell r;refine (f _).mono ?_;rintro e w1 ⟨rfl,a⟩;have j0:=a.cell q;have j6:=a.cell V;have W:=b.trans a;clear f b a q t u v z V r;go_wp2;go_ret;exact l.out _ jq
 .have au:((x.prs.length:Int)==0)=false:=by rw [jI];omega
  obtain ⟨g,cap,hv,d⟩:=h.pick jo;have av:=h.2.2.2.2.2.2.2.2.2.2.2.1.1;have X:=fun o=>FJ A x.prs.length o hA jo jo
  obtain ⟨r1,r2⟩:=FQ A x.prs.length jo;obtain ⟨m,hm⟩:=jM r1;rw [hm] at X;have aa:m<x.prs.length:=jo
  have cm:=d m aa;rw [hv] at r;clear h d r1 r2 hm;generalize x.prs[m]=y at *;generalize x.M=M0 at *;generalize x.p=p at *;generalize x.prs.length=n at *;unfold AB at *;go_enter Tryz.func22,Tryz.ntmps22;go_wp2_with fail;obtain ⟨wo,c,b,q,t,u,v,z⟩:=BV w (.int .i64 k) (.int .i64 A) (.int .i64 B) (.int .i64 C) (.string S) 28;rw [c];clear c;generalize w.heap.size=po at q t u v z |-;have V:=b.cell r;have km:=b.cell cm;refine (f _).mono ?_;rintro e w1 ⟨rfl,a⟩;have j0:=a.cell q;have j1:=a.cell t;have j2:=a.cell u;have j3:=a.cell v;have j4:=a.cell z;have j6:=a.cell V;have jm:=a.cell km;have W:=b.trans a;clear f b a q t u v z V r km cm;go_wp2_with fail;go_quiet ((go_at_call 34;refine Calls.quiet_of_same ((X _).mono fun e w2 h=>⟨h.1,h.2.symm⟩)));go_wp2;go_ret;exact l.out _ jq
end Go.Proofs.YtpapdkhjdelfcaaGreat
