import Derived.Test.YtpapdkhjdelfcaaGreatLBV
import Derived.Test.YtpapdkhjdelfcaaGreatLBZ
namespace Go.Proofs.YtpapdkhjdelfcaaGreat
open Go.RowKit
set_option maxRecDepth 100000
set_option maxHeartbeats 4000000
set_option linter.unusedVariables false
theorem VB (v:Value) (w:World):Calls Tryz.prog 36 #[v] w fun e w'=>e= .returned (.tuple #[])/\w=w':=by
 go_enter Tryz.func36,Tryz.ntmps36;go_wp2;go_end0;exact ⟨rfl,rfl⟩
def CZ (k:Int):Prop:=k=3\/k=4\/k=5\/k=6\/k=8\/k=9\/k=10\/k=11\/k=13
def BL (a:Aw) (p s:Nat) (k:Int) (e:Ending) (w':World):Prop:=∃b:Bool,e= .returned (.bool b)/\(CZ k->b=true)/\∃x,Ao a s x w'/\x.p=p
theorem Hg.step {a:Aw} {p s:Nat} {k:Int} {e:Ending} {w':World} (h:Hg a p s e w'):BL a p s k e w':=⟨true,h.1,fun _=>rfl,h.2⟩
theorem Cc.step {a:Aw} {p s:Nat} {k:Int} {e:Ending} {w':World} (h:Cc a p s e w') (c:¬CZ k):BL a p s k e w':=by
 obtain ⟨b,d,f⟩:=h;exact ⟨b,d,fun e=>absurd e c,f⟩
theorem Fi.step {a:Aw} {s:Nat} {k:Int} {x:WG} {w d:World} (h:Ao a s x w) (b:Aa w d) (g:s<=69999) (j:Nat) (c:j<x.prs.length) {e:Ending} {w':World} (f:Fi a.heap.size x.M x.prs[j] d e w'):BL a x.p (s+1) k e w':=
 ⟨true,f.1,fun _=>rfl,(h.later b).rpr j c (f.rpr ((h.later b).dpre j c g) (h.even j c))⟩
theorem IX.step {a:Aw} {s:Nat} {k:Int} {x:WG} {w c:World} (h:Ao a s x w) (b:Aa w c) (j:Nat) (f:j<x.prs.length) {e:Ending} {w':World} (d:IX a.heap.size x.M x.prs[j] c e w'):BL a x.p (s+1) k e w':=
 ⟨true,d.1,fun _=>rfl,(h.later b).rpr j f d.2⟩
theorem Rt (c:Aw) (s:Nat) (x:WG) (k A B C:Int) (S:ByteArray) (w:World) (h:Ao c s x w) (o:s<=69999) (i:Aj A) (l:Aj B) (m:Aj C) (q:S.size<=65536) (d:k=1\/k=2\/k=18\/k=19\/k=20\/k=21\/k=25):
  Calls Tryz.prog 22 #[.pointer (some ⟨x.p,0,none⟩),AB k A B C S] w (BL c x.p (s+1) k):=by
 have a:=fun f (b:Aa w f)=>S7 c s x k A B C S f (h.later b) jo i l m jo d
 generalize x.p=p at *;clear h d;unfold AB at *;go_enter Tryz.func22,Tryz.ntmps22;go_wp2_with fail;refine (a _ jq).mono ?_;rintro e r ⟨rfl,g⟩;have n:=jp g;clear g a;go_wp2;go_ret;exact ⟨true,rfl,fun _=>rfl,n.out⟩
theorem step_new (l:Aw) (s:Nat) (x:WG) (A B C:Int) (S:ByteArray) (w:World) (h:Ao l s x w) (D:s<=69999) (E:Aj A) (F:Aj B) (G:Aj C) (H:S.size<=65536):
  Calls Tryz.prog 22 #[.pointer (some ⟨x.p,0,none⟩),AB 3 A B C S] w (BL l x.p (s+1) 3):=by
 have c:=fun m=>Gu x.p 3 A B C S m js
 have d:=fun m (b:Aa w m)=>(Y9 l s x m (h.later b) jo).mono (fun e w' o=>(show BL l x.p (s+1) 3 e w' from ⟨true,o.1,fun _=>rfl,o.2⟩))
 generalize x.p=p at *;clear h;unfold AB at *;go_enter Tryz.func22,Tryz.ntmps22;go_wp2_with fail;obtain ⟨I,f,g,n,q,r,t,u⟩:=BV w (.int .i64 3) (.int .i64 A) (.int .i64 B) (.int .i64 C) (.string S) 28;rw [f];clear f;generalize w.heap.size=J at n q r t u |-;refine (c _).mono ?_;rintro e K ⟨rfl,a⟩;have L:=a.cell n;have i:=g.trans a;clear c g a n q r t u;go_wp2_with fail;refine (d _ i).mono ?_;rintro e M ⟨b,rfl,k,v⟩;have y:=jp v;have z:=jp k;clear v k d;go_wp2;go_ret;exact ⟨b,rfl,z.out,y.out⟩
theorem Rn (l:Aw) (s:Nat) (x:WG) (A B C:Int) (S:ByteArray) (w:World) (h:Ao l s x w) (F:s<=69999) (v:Aj A) (y:Aj B) (G:Aj C) (H:S.size<=65536):
  Calls Tryz.prog 22 #[.pointer (some ⟨x.p,0,none⟩),AB 22 A B C S] w (BL l x.p (s+1) 22):=by
 have c:=fun m=>Gu x.p 22 A B C S m js
 have d:=fun m (b:Aa w m)=>(Zj l s x A B C S m (h.later b) jo v y).mono (fun e w' z=>(show BL l x.p (s+1) 22 e w' from z.step (by simp [CZ])))
 generalize x.p=p at *;clear h;unfold AB at *;go_enter Tryz.func22,Tryz.ntmps22;go_wp2_with fail;obtain ⟨I,f,g,n,o,q,r,t⟩:=BV w (.int .i64 22) (.int .i64 A) (.int .i64 B) (.int .i64 C) (.string S) 28;rw [f];clear f;generalize w.heap.size=J at n o q r t |-;refine (c _).mono ?_;rintro e K ⟨rfl,a⟩;have L:=a.cell n;have M:=a.cell o;have N:=a.cell q;have O:=a.cell r;have P:=a.cell t;have i:=g.trans a;clear c g a n o q r t;go_wp2_with fail;refine (d _ i).mono ?_;rintro e Q ⟨b,rfl,k,u⟩;have D:=jp u;have E:=jp k;clear u k d;go_wp2;go_ret;exact ⟨b,rfl,E.out,D.out⟩
theorem TR (l:Aw) (s:Nat) (x:WG) (A B C:Int) (S:ByteArray) (w:World) (h:Ao l s x w) (F:s<=69999) (v:Aj A) (y:Aj B) (G:Aj C) (H:S.size<=65536):
  Calls Tryz.prog 22 #[.pointer (some ⟨x.p,0,none⟩),AB 23 A B C S] w (BL l x.p (s+1) 23):=by
 have c:=fun m=>Gu x.p 23 A B C S m js
 have d:=fun m (b:Aa w m)=>(Ta l s x A B C S m (h.later b) jo v y).mono (fun e w' z=>(show BL l x.p (s+1) 23 e w' from z.step (by simp [CZ])))
 generalize x.p=p at *;clear h;unfold AB at *;go_enter Tryz.func22,Tryz.ntmps22;go_wp2_with fail;obtain ⟨I,f,g,n,o,q,r,t⟩:=BV w (.int .i64 23) (.int .i64 A) (.int .i64 B) (.int .i64 C) (.string S) 28;rw [f];clear f;generalize w.heap.size=J at n o q r t |-;refine (c _).mono ?_;rintro e K ⟨rfl,a⟩;have L:=a.cell n;have M:=a.cell o;have N:=a.cell q;have O:=a.cell r;have P:=a.cell t;have i:=g.trans a;clear c g a n o q r t;go_wp2_with fail;refine (d _ i).mono ?_;rintro e Q ⟨b,rfl,k,u⟩;have D:=jp u;have E:=jp k;clear u k d;go_wp2;go_ret;exact ⟨b,rfl,E.out,D.out⟩
theorem Us (l:Aw) (s:Nat) (x:WG) (A B C:Int) (S:ByteArray) (w:World) (h:Ao l s x w) (F:s<=69999) (v:Aj A) (y:Aj B) (G:Aj C) (H:S.size<=65536):
  Calls Tryz.prog 22 #[.pointer (some ⟨x.p,0,none⟩),AB 24 A B C S] w (BL l x.p (s+1) 24):=by
 have c:=fun m=>Gu x.p 24 A B C S m js
 have d:=fun m (b:Aa w m)=>(TY l s x A B C S m (h.later b) jo v y).mono (fun e w' z=>(show BL l x.p (s+1) 24 e w' from z.step (by simp [CZ])))
 generalize x.p=p at *;clear h;unfold AB at *;go_enter Tryz.func22,Tryz.ntmps22;go_wp2_with fail;obtain ⟨I,f,g,n,o,q,r,t⟩:=BV w (.int .i64 24) (.int .i64 A) (.int .i64 B) (.int .i64 C) (.string S) 28;rw [f];clear f;generalize w.heap.size=J at n o q r t |-;refine (c _).mono ?_;rintro e K ⟨rfl,a⟩;have L:=a.cell n;have M:=a.cell o;have N:=a.cell q;have O:=a.cell r;have P:=a.cell t;have i:=g.trans a;clear c g a n o q r t;go_wp2_with fail;refine (d _ i).mono ?_;rintro e Q ⟨b,rfl,k,u⟩;have D:=jp u;have E:=jp k;clear u k d;go_wp2;go_ret;exact ⟨b,rfl,E.out,D.out⟩
theorem Fc (f:Aw) (s:Nat) (x:WG) (k A B C:Int) (S:ByteArray) (w:World) (h:Ao f s x w) (D:s<=69999) (hA:Aj A) (hB:Aj B) (hC:Aj C) (hS:S.size<=65536) (Z:k=4\/k=5\/k=6\/k=8\/k=9\/k=10\/k=11\/k=12\/k=14\/k=15\/k=16\/k=17):
  Calls Tryz.prog 22 #[.pointer (some ⟨x.p,0,none⟩),AB k A B C S] w (BL f x.p (s+1) k):=by
 have L:=fun a=>Gu x.p k A B C S a ⟨jo,jo,jo,jo,jo,jo,jo⟩
 have N:Hid (∀a (b:Bool),Aa w a->(CZ k->b=true)->BL f x.p (s+1) k (.returned (.bool b)) a):=fun a b hb Z=>⟨b,rfl,Z,x,(h.later hb).up jo,rfl⟩
 have P:=h.1.1 6 _ rfl;by_cases aa:x.prs.length=0
 .obtain ⟨ao,cap,hv⟩:=CP h.2.2.2.2.2.2.1;rw [hv,aa] at P;generalize x.p=p at *;clear h;unfold AB at *;go_enter Tryz.func22,Tryz.ntmps22;go_wp2_with fail;obtain ⟨wo,E,l,O,Q,R,T,U⟩:=BV w (.int .i64 k) (.int .i64 A) (.int .i64 B) (.int .i64 C) (.string S) 28;rw [E];clear E;generalize w.heap.size=po at O Q R T U |-;have V:=l.cell P;refine (L _).mono ?_;rintro e w1 ⟨rfl,d⟩;have j0:=d.cell O;have j6:=d.cell V;have W:=l.trans d;clear L l d O Q R T U V P;rcases Z with rfl|rfl|rfl|rfl|rfl|rfl|rfl|rfl|rfl|rfl|rfl|rfl
  all_goals
   go_wp2;go_ret;exact N.out _ _ jq (fun _=>rfl)
 .have ab:((x.prs.length:Int)==0)=false:=by rw [jI];omega
  obtain ⟨g,cap,hv,F⟩:=h.pick jo;have ac:=h.2.2.2.2.2.2.2.2.2.2.2.1.1;have X:=fun a=>FJ A x.prs.length a hA jo jo
  obtain ⟨r1,r2⟩:=FQ A x.prs.length jo;obtain ⟨m,hm⟩:=jM r1;rw [hm] at X;have c:m<x.prs.length:=jo
  have cm:=F m c;rw [hv] at P;have G:=fun a (b:Aa w a)=>(L8 f.heap.size x.M x.prs[m] 4 A B C S a ((h.later b).dpre m c D) (by unfold maxLen;omega) jo).mono (fun e w' i=>Fi.step (k:=4) h b D m c i)
  have H:=fun a (b:Aa w a)=>(L8 f.heap.size x.M x.prs[m] 5 A B C S a ((h.later b).dpre m c D) (by unfold maxLen;omega) jo).mono (fun e w' i=>Fi.step (k:=5) h b D m c i)
  have I:=fun a (b:Aa w a)=>(L8 f.heap.size x.M x.prs[m] 6 A B C S a ((h.later b).dpre m c D) (by unfold maxLen;omega) jo).mono (fun e w' i=>Fi.step (k:=6) h b D m c i)
  have J:=fun a (b:Aa w a)=>(Zbw f s x m c A B C S a (h.later b) jo hB).mono (fun e w' i=>(show BL f x.p (s+1) 8 e w' from i.step))
  have K:=fun a (b:Aa w a)=>(WF f s x m c A B C S a (h.later b) jo).mono (fun e w' i=>(show BL f x.p (s+1) 9 e w' from i.step))
  have o:=fun a (b:Aa w a)=>(R3 f s x m c A B C S a (h.later b) hS).mono (fun e w' i=>(show BL f x.p (s+1) 10 e w' from i.step))
  have q:=fun a (b:Aa w a)=>(TN f.heap.size x.M x.prs[m] B a ((h.later b).dpre m c D) (h.even m c) (h.later b).2.1.size).mono (fun e w' i=>IX.step (k:=11) h b m c i)
  have r:=fun a (b:Aa w a)=>(Q3 f s x m c A B C S a (h.later b) D).mono (fun e w' i=>(show BL f x.p (s+1) 12 e w' from i.step (by simp [CZ])))
  have t:=fun a (b:Aa w a)=>(Wp f s x m c A B C S a (h.later b) D hC).mono (fun e w' i=>(show BL f x.p (s+1) 14 e w' from i.step (by simp [CZ])))
  have u:=fun a (b:Aa w a)=>(Xz f s x m c A B C S a (h.later b) D).mono (fun e w' i=>(show BL f x.p (s+1) 15 e w' from i.step (by simp [CZ])))
  have v:=fun a (b:Aa w a)=>(WA f s x m c A B C S a (h.later b) D).mono (fun e w' i=>(show BL f x.p (s+1) 16 e w' from i.step (by simp [CZ])))
  have z:=fun a (b:Aa w a)=>(Sz f s x m c A B C S a (h.later b) D hS).mono (fun e w' i=>(show BL f x.p (s+1) 17 e w' from i.step (by simp [CZ])))
  clear h F r1 r2 hm;generalize x.prs[m]=y at *;generalize x.M=M0 at *;generalize x.p=p at *;generalize x.prs.length=n at *;unfold AB at *;go_enter Tryz.func22,Tryz.ntmps22;go_wp2_with fail;obtain ⟨wo,E,l,O,Q,R,T,U⟩:=BV w (.int .i64 k) (.int .i64 A) (.int .i64 B) (.int .i64 C) (.string S) 28;rw [E];clear E;generalize w.heap.size=po at O Q R T U |-;have V:=l.cell P;have km:=l.cell cm;refine (L _).mono ?_;rintro e w1 ⟨rfl,d⟩;have j0:=d.cell O;have j1:=d.cell Q;have j2:=d.cell R;have j3:=d.cell T;have j4:=d.cell U;have j6:=d.cell V;have jm:=d.cell km;have W:=l.trans d;clear L l d O Q R T U V P km cm N;rcases Z with rfl|rfl|rfl|rfl|rfl|rfl|rfl|rfl|rfl|rfl|rfl|rfl
  all_goals
   go_wp2_with fail;go_quiet ((go_at_call 34;refine Calls.quiet_of_same ((X _).mono fun e w2 h=>⟨h.1,h.2.symm⟩)));go_wp2_with fail
  refine (G _ jq).mono ?_
  rotate_left
  refine (H _ jq).mono ?_
  rotate_left
  refine (I _ jq).mono ?_
  rotate_left
  refine (J _ jq).mono ?_
  rotate_left
  refine (K _ jq).mono ?_
  rotate_left
  refine (o _ jq).mono ?_
  rotate_left
  refine (q _ jq).mono ?_
  rotate_left
  refine (r _ jq).mono ?_
  rotate_left
  refine (t _ jq).mono ?_
  rotate_left
  refine (u _ jq).mono ?_
  rotate_left
  refine (v _ jq).mono ?_
  rotate_left
  refine (z _ jq).mono ?_
  rotate_left
  all_goals
   rintro e w2 ⟨b,rfl,Y,hx⟩;have HX:=jp hx;have HB:=jp Y;clear hx Y G H I J K o q r t u v z;go_wp2;go_ret;exact ⟨b,rfl,HB.out,HX.out⟩
theorem VU (G:Aw) (s:Nat) (x:WG) (A B C:Int) (S:ByteArray) (w:World) (h:Ao G s x w) (hs:s<=69999) (P:Aj A) (hB:Aj B) (hC:Aj C) (hS:S.size<=65536):
  Calls Tryz.prog 22 #[.pointer (some ⟨x.p,0,none⟩),AB 7 A B C S] w (BL G x.p (s+1) 7):=by
 have i:=fun o=>Gu x.p 7 A B C S o js
 have k:Hid (∀o (b:Bool),Aa w o->(CZ 7->b=true)->BL G x.p (s+1) 7 (.returned (.bool b)) o):=fun o b Q R=>⟨b,rfl,R,x,(h.later Q).up jo,rfl⟩
 have r:=h.1.1 6 _ rfl;by_cases H:x.prs.length=0
 .obtain ⟨ao,cap,I⟩:=CP h.2.2.2.2.2.2.1;rw [I,H] at r;generalize x.p=p at *;clear h;unfold AB at *;go_enter Tryz.func22,Tryz.ntmps22;go_wp2_with fail;obtain ⟨T,d,c,q,t,u,v,z⟩:=BV w (.int .i64 7) (.int .i64 A) (.int .i64 B) (.int .i64 C) (.string S) 28;rw [d];clear d;generalize w.heap.size=U at q t u v z |-;have D:=c.cell r;refine (i _).mono ?_;rintro e V ⟨rfl,a⟩;have W:=a.cell q;have X:=a.cell D;have l:=c.trans a;clear i c a q t u v z D r;go_wp2;go_ret;exact k.out _ _ jq (fun _=>rfl)
 .have Y:((x.prs.length:Int)==0)=false:=by rw [jI];omega
  obtain ⟨g,cap,I,f⟩:=h.pick jo;have Z:=h.2.2.2.2.2.2.2.2.2.2.2.1.1;have E:=fun o=>FJ A x.prs.length o P jo jo
  obtain ⟨K,r2⟩:=FQ A x.prs.length jo;obtain ⟨m,L⟩:=jM K;rw [L] at E;have F:m<x.prs.length:=jo
  have N:=f m F;rw [I] at r;have J:=(h.pair_at m F).1.1 0 _ rfl;clear h f K r2 L;generalize x.prs[m]=y at *;generalize x.M=M0 at *;generalize x.p=p at *;generalize x.prs.length=n at *;unfold AB at *;go_enter Tryz.func22,Tryz.ntmps22;go_wp2_with fail;obtain ⟨T,d,c,q,t,u,v,z⟩:=BV w (.int .i64 7) (.int .i64 A) (.int .i64 B) (.int .i64 C) (.string S) 28;rw [d];clear d;generalize w.heap.size=U at q t u v z |-;have D:=c.cell r;have O:=c.cell N;refine (i _).mono ?_;rintro e V ⟨rfl,a⟩;have W:=a.cell q;have j1:=a.cell t;have j2:=a.cell u;have j3:=a.cell v;have j4:=a.cell z;have X:=a.cell D;have jm:=a.cell O;have l:=c.trans a;clear i c a q t u v z D r O N;go_wp2_with fail;go_quiet ((go_at_call 34;refine Calls.quiet_of_same ((E _).mono fun e w2 h=>⟨h.1,h.2.symm⟩)));have d0:=l.cell J;go_wp2_with fail;refine (VB _ _).mono ?_;rintro e w2 ⟨rfl,rfl⟩;go_wp2;go_ret;exact k.out _ _ jq (fun _=>rfl)
theorem WN (X:Aw) (s:Nat) (x:WG) (A B C:Int) (S:ByteArray) (w:World) (h:Ao X s x w) (hs:s<=69999) (hA:Aj A) (hB:Aj B) (hC:Aj C) (hS:S.size<=65536):
  Calls Tryz.prog 22 #[.pointer (some ⟨x.p,0,none⟩),AB 13 A B C S] w (BL X x.p (s+1) 13):=by
 have J:=fun i=>Gu x.p 13 A B C S i js
 have D:Hid (∀i (b:Bool),Aa w i->(CZ 13->b=true)->BL X x.p (s+1) 13 (.returned (.bool b)) i):=fun i b hb hk=>⟨b,rfl,hk,x,(h.later hb).up jo,rfl⟩
 have Y:=h.1.1 6 _ rfl;by_cases ag:x.prs.length=0
 .obtain ⟨ao,cap,hv⟩:=CP h.2.2.2.2.2.2.1;rw [hv,ag] at Y;generalize x.p=p at *;clear h;unfold AB at *;go_enter Tryz.func22,Tryz.ntmps22;go_wp2_with fail;obtain ⟨wo,E,l,R,Z,o2,o3,o4⟩:=BV w (.int .i64 13) (.int .i64 A) (.int .i64 B) (.int .i64 C) (.string S) 28;rw [E];clear E;generalize w.heap.size=po at R Z o2 o3 o4 |-;have k6:=l.cell Y;refine (J _).mono ?_;rintro e w1 ⟨rfl,k⟩;have j0:=k.cell R;have j6:=k.cell k6;have o:=l.trans k;clear J l k R Z o2 o3 o4 k6 Y;go_wp2;go_ret;exact D.out _ _ jq (fun _=>rfl)
 .have aq:((x.prs.length:Int)==0)=false:=by rw [jI];omega
  obtain ⟨g,cap,hv,F⟩:=h.pick jo;have ar:=h.2.2.2.2.2.2.2.2.2.2.2.1.1;have aa:=fun i=>FJ A x.prs.length i hA jo jo
  obtain ⟨r1,r2⟩:=FQ A x.prs.length jo;obtain ⟨m,hm⟩:=jM r1;rw [hm] at aa;have T:m<x.prs.length:=jo
  have cm:=F m T;rw [hv] at Y;have N:=fun i (b:Aa w i)=>FI X s x B i (h.later b) jo hB
  have d:=h.pair_at m T;have ah:=d.1.1 0 _ rfl;have ai:=d.1.1 8 _ rfl;have aj:=d.1.1 6 _ rfl;have U:=d.2.2.2.2.2.2.1.unmask;have V:=Je (x.prs[m]).c (x.prs[m]).B d.2.2.2.2.1 d.2.2.2.1.1;have O:=fun (t:ByteArray) (ht:t.size<=1099511627776) i (b:Aa w i)=>Uq x.M (x.prs[m]).q (x.prs[m]).c (x.prs[m]).B (x.prs[m]).g.toNat t i (by have:=d.2.1.later b;rw [Int.toNat_of_nonneg d.2.2.2.2.2.1.1];exact this) V d.2.2.2.2.1 d.2.2.2.1.1 (by have:=d.2.2.2.2.2.1.2.1;omega) ht
  have r:=fun (f:ByteArray) i (b:Aa w i)=>LH X s x m T (Ai (GO (x.prs[m]).c.formats.toNat (x.prs[m]).g.toNat (x.prs[m]).c (x.prs[m]).B (An (x.prs[m]).c (x.prs[m]).B) f.data.toList)) i (h.later b) jo (by rw [NG];have:=Tq (x.prs[m]).c.formats.toNat (x.prs[m]).g.toNat (x.prs[m]).c (x.prs[m]).B (An (x.prs[m]).c (x.prs[m]).B) f.data.toList;omega)
  have G:=d.2.2.2.1;have ab:0<=(x.prs[m]).g/\(x.prs[m]).g<=70000:=⟨d.2.2.2.2.2.1.1,d.2.2.2.2.2.1.2.1⟩;have ac:0<=(x.prs[m]).c.formats:=by have:=d.2.2.2.2.1.2.2.2.2.2.2.2.2.2.2.1;omega
  have ad:(x.prs[m]).c.formats<=3:=d.2.2.2.2.1.2.2.2.2.2.2.2.2.2.2.2;have P:=fun (f:ByteArray) (hf:f.size<=1099511627776) i (hv:DQ i (x.prs[m]).vs (x.prs[m]).c (x.prs[m]).B (x.prs[m]).g)=>Zcl (x.prs[m]).vs (x.prs[m]).c (x.prs[m]).B (x.prs[m]).g (x.prs[m]).c.formats f i hv G ab V ac ad hf
  clear d V G ab;clear h F r1 r2 hm;generalize x.prs[m]=y at *;generalize x.M=M0 at *;generalize x.p=p at *;generalize x.prs.length=n at *;unfold AB at *;go_enter Tryz.func22,Tryz.ntmps22;go_wp2_with fail;obtain ⟨wo,E,l,R,Z,o2,o3,o4⟩:=BV w (.int .i64 13) (.int .i64 A) (.int .i64 B) (.int .i64 C) (.string S) 28;rw [E];clear E;generalize w.heap.size=po at R Z o2 o3 o4 |-;have k6:=l.cell Y;have km:=l.cell cm;refine (J _).mono ?_;rintro e w1 ⟨rfl,k⟩;have j0:=k.cell R;have j1:=k.cell Z;have j2:=k.cell o2;have j3:=k.cell o3;have j4:=k.cell o4;have j6:=k.cell k6;have jm:=k.cell km;have o:=l.trans k;clear J l k R Z o2 o3 o4 k6 Y km cm;go_wp2_with fail;go_quiet ((go_at_call 34;refine Calls.quiet_of_same ((aa _).mono fun e w2 h=>⟨h.1,h.2.symm⟩)));have d0:=o.cell ah;have d8:=o.cell ai;have d6:=o.cell aj;have au:y.a<w1.heap.size:=jF d0;go_wp2_with fail;refine (N _ jq).mono ?_;rintro e w2 ⟨f,rfl,ak,ae⟩;have v:Aa w1 w2:=jq
  have af:=o.trans v;have e0:=v.cell d0;have e8:=v.cell d8;have e6:=v.cell d6;clear N ak d0 d8 d6;go_wp2_with fail;refine (O f ae _ jq).mono ?_;rintro e w3 ⟨rfl,al⟩;have z:Aa w2 w3:=jq
  have Q:=af.trans z;have f8:=z.cell e8;have f6:=z.cell e6;have r:=r f;have K:=P f ae;generalize Ai (GO y.c.formats.toNat y.g.toNat y.c y.B (An y.c y.B) f.data.toList)=t3 at *;have av:(t3.toList==t3.toList)=true:=FE.2 rfl;clear al z e0 e8 e6 O P;cases aw:t3.toList.isEmpty
  .go_wp2_with fail;refine (r _ jq).mono ?_;rintro e W4 ⟨rfl,⟨x2,h2,am,L⟩, -⟩;have g8:=L.1.1 8 _ rfl;have g6:=L.1.1 6 _ rfl;have u:=fun i (b:Aa W4 i)=>K i (L.2.2.2.2.2.2.1.unmask.later b)
   have H2:Hid (∀i,Aa W4 i->BL X p (s+1) 13 (.returned (.bool true)) i):=fun i hb=>⟨true,rfl,fun _=>rfl,x2,h2.later hb,am⟩
   clear h2 L r U D f8 f6 K;go_wp2_with fail;go_region_held3 (fun w'=>Aa W4 w'/\w'.cell? ⟨y.a,8,none⟩=some y.vs/\w'.cell? ⟨y.a,6,none⟩=some (.int .i64 y.c.formats)) ((exact ⟨jq,Aa.cell (a:=W4) jq g8,Aa.cell (a:=W4) jq g6⟩)) ((go_at_call 42;refine (u _ jq).mono ?_;rintro e w4 ⟨m4,rfl,W,H⟩;have an:m4=t3:=H;clear H;subst m4));have I:Aa W4 w4:=jq
   clear W u;go_wp2
   all_goals
    go_ret;exact H2.out _ jq
  .clear r;have u:=fun i (b:Aa w3 i)=>K i (U.later (Q.trans b))
   clear K U;go_wp2_with fail;go_region_held3 (fun w'=>Aa w3 w'/\w'.cell? ⟨y.a,8,none⟩=some y.vs/\w'.cell? ⟨y.a,6,none⟩=some (.int .i64 y.c.formats)) ((exact ⟨jq,Aa.cell (a:=w3) jq f8,Aa.cell (a:=w3) jq f6⟩)) ((go_at_call 42;refine (u _ jq).mono ?_;rintro e w4 ⟨m4,rfl,W,H⟩;have an:m4=t3:=H;clear H;subst m4));have I:Aa w3 w4:=jq
   have ap:=Q.trans I;clear W I u;go_wp2
   all_goals
    go_ret;exact D.out _ _ jq (fun _=>rfl)
theorem UU (Z:Aw) (s:Nat) (x:WG) (k A B C:Int) (S:ByteArray) (w:World) (h:Ao Z s x w) (hs:s<=69999) (hA:Aj A) (hB:Aj B) (hC:Aj C) (hS:S.size<=65536) (i:k≠1/\k≠2/\k≠3/\k≠4/\k≠5/\k≠6/\k≠7/\k≠8/\k≠9/\k≠10/\k≠11/\k≠12/\k≠13/\k≠14/\k≠15/\k≠16/\k≠17/\k≠18/\k≠19/\k≠20/\k≠21/\k≠22/\k≠23/\k≠24/\k≠25):
  Calls Tryz.prog 22 #[.pointer (some ⟨x.p,0,none⟩),AB k A B C S] w (BL Z x.p (s+1) k):=by
 have l:=fun q=>Gu x.p k A B C S q ⟨i.1,i.2.1,i.2.2.2.2.2.2.2.2.2.2.2.2.2.2.2.2.2.1,i.2.2.2.2.2.2.2.2.2.2.2.2.2.2.2.2.2.2.1,i.2.2.2.2.2.2.2.2.2.2.2.2.2.2.2.2.2.2.2.1,i.2.2.2.2.2.2.2.2.2.2.2.2.2.2.2.2.2.2.2.2.1,i.2.2.2.2.2.2.2.2.2.2.2.2.2.2.2.2.2.2.2.2.2.2.2.2⟩
 obtain ⟨q1,q2,q3,q4,q5,q6,q7,q8,q9,E,F,G,H,I,J,K,L,N,O,P,Q,R,T,U,V⟩:=i;have z1:(k==1)=false:=by rw [jI];exact q1
 have z2:(k==2)=false:=by rw [jI];exact q2
 have z3:(k==3)=false:=by rw [jI];exact q3
 have z4:(k==4)=false:=by rw [jI];exact q4
 have z5:(k==5)=false:=by rw [jI];exact q5
 have z6:(k==6)=false:=by rw [jI];exact q6
 have z7:(k==7)=false:=by rw [jI];exact q7
 have z8:(k==8)=false:=by rw [jI];exact q8
 have z9:(k==9)=false:=by rw [jI];exact q9
 have ac:(k==10)=false:=by rw [jI];exact E
 have ad:(k==11)=false:=by rw [jI];exact F
 have ae:(k==12)=false:=by rw [jI];exact G
 have af:(k==13)=false:=by rw [jI];exact H
 have ag:(k==14)=false:=by rw [jI];exact I
 have ah:(k==15)=false:=by rw [jI];exact J
 have ai:(k==16)=false:=by rw [jI];exact K
 have aj:(k==17)=false:=by rw [jI];exact L
 have ak:(k==18)=false:=by rw [jI];exact N
 have al:(k==19)=false:=by rw [jI];exact O
 have am:(k==20)=false:=by rw [jI];exact P
 have an:(k==21)=false:=by rw [jI];exact Q
 have ap:(k==22)=false:=by rw [jI];exact R
 have aq:(k==23)=false:=by rw [jI];exact T
 have ar:(k==24)=false:=by rw [jI];exact U
 have au:(k==25)=false:=by rw [jI];exact V
 clear q1 q2 q3 q4 q5 q6 q7 q8 q9 E F G H I J K L N O P Q R T U V;have o:Hid (∀q (b:Bool),Aa w q->(CZ k->b=true)->BL Z x.p (s+1) k (.returned (.bool b)) q):=fun q b hb i=>⟨b,rfl,i,x,(h.later hb).up jo,rfl⟩
 have t:=h.1.1 6 _ rfl;by_cases aa:x.prs.length=0
 .obtain ⟨ao,cap,hv⟩:=CP h.2.2.2.2.2.2.1;rw [hv,aa] at t;generalize x.p=p at *;clear h;unfold AB at *;go_enter Tryz.func22,Tryz.ntmps22;go_wp2_with fail;obtain ⟨wo,d,c,r,u,v,z,D⟩:=BV w (.int .i64 k) (.int .i64 A) (.int .i64 B) (.int .i64 C) (.string S) 28;rw [d];clear d;generalize w.heap.size=po at r u v z D |-;have W:=c.cell t;refine (l _).mono ?_;rintro e w1 ⟨rfl,a⟩;have j0:=a.cell r;have j6:=a.cell W;have X:=c.trans a;clear l c a r u v z D W t;go_wp2;go_ret;exact o.out _ _ jq (fun _=>rfl)
 .have av:((x.prs.length:Int)==0)=false:=by rw [jI];omega
  obtain ⟨g,cap,hv,f⟩:=h.pick jo;have aw:=h.2.2.2.2.2.2.2.2.2.2.2.1.1;have Y:=fun q=>FJ A x.prs.length q hA jo jo
  obtain ⟨r1,r2⟩:=FQ A x.prs.length jo;obtain ⟨m,hm⟩:=jM r1;rw [hm] at Y;have ab:m<x.prs.length:=jo
  have cm:=f m ab;rw [hv] at t;clear h f r1 r2 hm;generalize x.prs[m]=y at *;generalize x.M=M0 at *;generalize x.p=p at *;generalize x.prs.length=n at *;unfold AB at *;go_enter Tryz.func22,Tryz.ntmps22;go_wp2_with fail;obtain ⟨wo,d,c,r,u,v,z,D⟩:=BV w (.int .i64 k) (.int .i64 A) (.int .i64 B) (.int .i64 C) (.string S) 28;rw [d];clear d;generalize w.heap.size=po at r u v z D |-;have W:=c.cell t;have km:=c.cell cm;refine (l _).mono ?_;rintro e w1 ⟨rfl,a⟩;have j0:=a.cell r;have j1:=a.cell u;have j2:=a.cell v;have j3:=a.cell z;have j4:=a.cell D;have j6:=a.cell W;have jm:=a.cell km;have X:=c.trans a;clear l c a r u v z D W t km cm;go_wp2_with fail;go_quiet ((go_at_call 34;refine Calls.quiet_of_same ((Y _).mono fun e w2 h=>⟨h.1,h.2.symm⟩)));go_wp2;go_ret;exact o.out _ _ jq (fun _=>rfl)
end Go.Proofs.YtpapdkhjdelfcaaGreat
