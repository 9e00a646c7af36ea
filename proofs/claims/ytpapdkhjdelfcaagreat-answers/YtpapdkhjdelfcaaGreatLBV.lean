import Derived.Test.YtpapdkhjdelfcaaGreatLBU
namespace Go.Proofs.YtpapdkhjdelfcaaGreat
open Go.RowKit
set_option maxRecDepth 100000
set_option maxHeartbeats 4000000
theorem Au.At.open {M:List Nat} {x:Au} {w:World} (h:x.At M w):BX w x.p x.speaks x.has x.gen x.format x.got x.no/\(0<=x.speaks/\x.speaks<=3)/\Aj x.gen/\Aj x.format/\Di w x.got x.ng/\x.ng<=65535/\(∃a,Do w x.has a)/\∀g,x.got.ownBlock=some g->g≠x.p:=by
 obtain ⟨b,c,d,f,i,k,⟨a,l⟩,m⟩:=h;exact ⟨b,c,d,f,i,k,⟨a,l.unmask⟩,m⟩
theorem Wu (w:World) (a:Addr) (v:Value) (o:Obj) (h:a.block<w.heap.size):(w.setCell a v).alloc o=(w.alloc o).setCell a v:=by
 unfold World.setCell World.alloc;simp only;congr 1;apply Array.ext
 .simp
 .intro i c d;simp only [Array.getElem_push,Array.getElem_modify,Array.size_modify];by_cases b:i<w.heap.size
  .simp [b]
  .have:a.block≠i:=jo
   simp [b,this]
def QA (b:Aw) (s p:Nat) (z:Au) (e:Ending) (w':World):Prop:=e= .returned (.tuple #[])/\∃a,Ao b s a w'/\a.p=p/\z.At a.M w'
theorem Q3 (R:Aw) (s:Nat) (x:WG) (k:Nat) (hk:k<x.prs.length) (A B C:Int) (S:ByteArray) (w:World) (h:Ao R s x w) (am:s<=69999):
  Calls Tryz.prog 43 #[.pointer (some ⟨x.p,0,none⟩),.pointer (some ⟨(x.prs[k]).a,0,none⟩),AB 12 A B C S] w (Cc R x.p (s+1)):=by
 have d:=h.pair_at k hk;have X:Hid (∀f (b:Bool),Aa w f->Cc R x.p (s+1) (.returned (.bool b)) f):=fun f b hb=>⟨b,rfl,x,(h.later hb).up (by omega),rfl⟩
 have F:=fun f (b:Aa w f)=>Tu B (d.2.1.later b)
 have o:=fun (t:ByteArray) (ht:t.size<=16777216) f (b:Aa w f)=>LH R s x k hk t f (h.later b) (by omega) (by omega)
 have G:w.heap.size∉x.M:=fun e=>by have:=(h.2.2.2.2.1 _ e).2;omega
 generalize x.M=M0 at *;generalize x.prs[k]=y at *;generalize x.p=p at *;have c0:=d.1.1 0 _ rfl;have c9:=d.1.1 9 _ rfl;have i:=d.2.2.2.2.2.2.2.1;have H:=d.2.2.2.2.2.2.2.2.2;have aj:=d.2.2.2.2.2.2.2.2.1;have af:=jF c0;simp only at af;obtain ⟨ao,cap,hv⟩:=CP i;clear h d;by_cases I:0<=B/\B<y.ps.length
 .obtain ⟨m,rfl⟩:=jM I.1;have v:m<y.ps.length:=by omega
  obtain ⟨g,ak,J, -,an,hc⟩:=Fo i (by omega);rw [hv] at J;simp only [Value.slice.injEq,true_and] at J;obtain ⟨rfl,rfl⟩:=J;have cm:w.cell? ⟨g,m,none⟩=some (.pointer (some ⟨(y.ps[m]).p,0,none⟩)):=(hc m v).trans (by simp [v]);have Y:=H _ (jJ v);have ap:decide ((m:Int)<(y.ps.length:Int))=true:=jL (by omega);rw [hv] at c9
  have Z := fun t ht f (b : Aa w f) => (o t ht f b).mono (fun e w' hr => (show QA R (s + 1) p (y.ps[m]) e w' from by
    obtain ⟨h1, ⟨x', T, h3, h4⟩, -⟩ := hr
    exact ⟨h1, x', T, h3, h4.2.2.2.2.2.2.2.2.2 _ (jJ v)⟩))
  clear o;clear hc H;clear i;generalize y.ps[m]=z at *;generalize y.ps.length=n at *;obtain ⟨hz,aa,K,L,D,N,⟨hg,E⟩,ab⟩:=Y.open;clear hz aa K L D N E ab;clear Y;unfold AB;go_enter Tryz.func43,Tryz.ntmps43;go_wp2_with fail;obtain ⟨l,r,c,U,o1,V,o3,o4⟩:=BV w (.int .i64 12) (.int .i64 A) (.int .i64 (m:Int)) (.int .i64 C) (.string S) 28;rw [r];clear r;have W:=c.cell c0;have k9:=c.cell c9;have km:=c.cell cm;have aq:g<l.heap.size:=jF km;have ag:y.a<l.heap.size:=jF W;have O:w.heap.size<l.heap.size:=jF U;generalize w.heap.size=po at U o1 V o3 o4 G O |-;go_quiet (fail);go_wp2_with fail;go_quiet (fail);go_wp2_with fail;go_region_held3 (fun w'=>Aa l w'/\w'.cell? ⟨y.a,0,none⟩=some (.pointer (some ⟨y.q,0,none⟩))/\w'.cell? ⟨po,2,none⟩=some (.int .i64 (m:Int))) ((exact ⟨by (repeat (first|exact jD _|assumption|refine jA ?_|refine jB ?_|refine jC ?_|refine Aa.step_set ?_ (by simp <;>omega) _|refine jE ?_ (by assumption))),Aa.cell (a:=l) (by (repeat (first|exact jD _|assumption|refine jA ?_|refine jB ?_|refine jC ?_|refine Aa.step_set ?_ (by simp <;>omega) _|refine jE ?_ (by assumption)))) W,Aa.cell (a:=l) (by (repeat (first|exact jD _|assumption|refine jA ?_|refine jB ?_|refine jC ?_|refine Aa.step_set ?_ (by simp <;>omega) _|refine jE ?_ (by assumption)))) V⟩)) ((go_at_call 77;refine (F _ (by (repeat (first|exact jD _|assumption|refine jA ?_|refine jB ?_|refine jC ?_|refine Aa.step_set ?_ (by simp <;>omega) _|refine jE ?_ (by assumption))))).mono ?_;rintro e w1 ⟨t1,n1,rfl,P,ac⟩;have Q:Aa l w1:=(by (repeat (first|exact jD _|assumption|refine jA ?_|refine jB ?_|refine jC ?_|refine Aa.step_set ?_ (by simp <;>omega) _|refine jE ?_ (by assumption))));clear P));have al:=c.trans Q;clear Q c W k9 km U o1 V o3 o4;go_wp2_with fail;refine (Z t1 ac _ (by (repeat (first|exact jD _|assumption|refine jA ?_|refine jB ?_|refine jC ?_|refine Aa.step_set ?_ (by simp <;>omega) _|refine jE ?_ (by assumption))))).mono ?_;rintro e w2 ⟨rfl,x2,T,ah,ad⟩;obtain ⟨hz,aa,K,L,D,N,⟨hg,E⟩,ab⟩:=ad.open;have ae:=Vq z.p z.speaks z.has hg z.gen z.format z.got z.ng z.no w2 hz E ⟨by omega,by omega⟩ K L D N;have H2:Hid (∀f (b:Bool),Aa w2 f->Cc R p (s+1) (.returned (.bool b)) f):=fun f b hb=>⟨b,rfl,x2,T.later hb,ah⟩
  clear Z T ad hz E D;go_wp2_with fail;refine ae.mono ?_;rintro e w3 ⟨q,rfl,ar, -⟩;clear ae;go_wp2
  all_goals
   go_ret;exact H2.out _ _ (by (repeat (first|exact jD _|assumption|refine jA ?_|refine jB ?_|refine jC ?_|refine Aa.step_set ?_ (by simp <;>omega) _|refine jE ?_ (by assumption))))
 .have u:∀b,decide (0<=B)=b->(b=true->decide (B<(y.ps.length:Int))=false):=fun b h1 T=>by
   rw [T] at h1;have:=of_decide_eq_true h1;exact jK (fun h3=>I ⟨this,h3⟩)
  rw [hv] at c9
  clear i H o
  generalize y.ps.length=n at *
  unfold AB
  go_enter Tryz.func43,Tryz.ntmps43
  go_wp2_with fail
  obtain ⟨l,r,c,U,o1,V,o3,o4⟩:=BV w (.int .i64 12) (.int .i64 A) (.int .i64 B) (.int .i64 C) (.string S) 28
  rw [r]
  clear r
  have W:=c.cell c0
  have k9:=c.cell c9
  have ag:y.a<l.heap.size:=jF W
  have O:w.heap.size<l.heap.size:=jF U
  generalize w.heap.size=po at U o1 V o3 o4 G O |-
  have ai:decide (0<=B)=false\/(decide (0<=B)=true/\decide (B<(n:Int))=false):=by
   cases h0:decide (0<=B)
   .exact Or.inl rfl
   .exact Or.inr ⟨rfl,u _ h0 rfl⟩
  clear u I
  rcases ai with h0|⟨h0,h1⟩
  all_goals
   go_quiet (fail)
   go_wp2_with fail
   go_region_held3 (fun w'=>Aa l w'/\w'.cell? ⟨y.a,0,none⟩=some (.pointer (some ⟨y.q,0,none⟩))/\w'.cell? ⟨po,2,none⟩=some (.int .i64 B)) ((exact ⟨by (repeat (first|exact jD _|assumption|refine jA ?_|refine jB ?_|refine jC ?_|refine Aa.step_set ?_ (by simp <;>omega) _|refine jE ?_ (by assumption))),Aa.cell (a:=l) (by (repeat (first|exact jD _|assumption|refine jA ?_|refine jB ?_|refine jC ?_|refine Aa.step_set ?_ (by simp <;>omega) _|refine jE ?_ (by assumption)))) W,Aa.cell (a:=l) (by (repeat (first|exact jD _|assumption|refine jA ?_|refine jB ?_|refine jC ?_|refine Aa.step_set ?_ (by simp <;>omega) _|refine jE ?_ (by assumption)))) V⟩)) ((go_at_call 77;refine (F _ (by (repeat (first|exact jD _|assumption|refine jA ?_|refine jB ?_|refine jC ?_|refine Aa.step_set ?_ (by simp <;>omega) _|refine jE ?_ (by assumption))))).mono ?_;rintro e w1 ⟨t1,n1,rfl,P,ac⟩;have Q:Aa l w1:=(by (repeat (first|exact jD _|assumption|refine jA ?_|refine jB ?_|refine jC ?_|refine Aa.step_set ?_ (by simp <;>omega) _|refine jE ?_ (by assumption))));clear P))
   go_wp2
   all_goals
    go_ret
    exact X.out _ _ (c.trans (by (repeat (first|exact jD _|assumption|refine jA ?_|refine jB ?_|refine jC ?_|refine Aa.step_set ?_ (by simp <;>omega) _|refine jE ?_ (by assumption)))))
theorem Wp (Q:Aw) (s:Nat) (x:WG) (k:Nat) (hk:k<x.prs.length) (A B C:Int) (S:ByteArray) (w:World) (h:Ao Q s x w) (ak:s<=69999) (hC:Aj C):
  Calls Tryz.prog 43 #[.pointer (some ⟨x.p,0,none⟩),.pointer (some ⟨(x.prs[k]).a,0,none⟩),AB 14 A B C S] w (Cc Q x.p (s+1)):=by
 have l:=h.pair_at k hk;have aa:Hid (∀i (b:Bool),Aa w i->Cc Q x.p (s+1) (.returned (.bool b)) i):=fun i b hb=>⟨b,rfl,x,(h.later hb).up (by omega),rfl⟩
 have hD:=h.dpre k hk ak;have v:=h.even k hk;have o:=fun (D:¬(0<=B/\B<(x.prs[k]).pp.length)) (t:ByteArray) i (b:Aa w i)=>VS B t (l.2.1.later b) D
 have R:Hid (∀i (b:Bool),El Q.heap.size x.M x.prs[k] w i->Cc Q x.p (s+1) (.returned (.bool b)) i):=fun i b Z=>by
  obtain ⟨x',h',hp⟩:=h.rpr k hk Z;exact ⟨b,rfl,x',h',hp⟩
 have r:=fun i (b:Aa w i)=>FI Q s x C i (h.later b) (by omega) hC
 have E:w.heap.size∉x.M:=fun e=>by have:=(h.2.2.2.2.1 _ e).2;omega
 generalize x.M=M0 at *;generalize x.prs[k]=y at *;generalize x.p=p at *;have c0:=l.1.1 0 _ rfl;have c9:=l.1.1 9 _ rfl;have u:=l.2.2.2.2.2.2.2.1;have T:=l.2.2.2.2.2.2.2.2.2;have ax:=l.2.2.2.2.2.2.2.2.1;have al:=jF c0;simp only at al;obtain ⟨ao,cap,hv⟩:=CP u;clear h l;by_cases D:0<=B/\B<y.ps.length
 .obtain ⟨m,rfl⟩:=jM D.1;have F:m<y.ps.length:=by omega
  obtain ⟨g,ay,U, -,az,hc⟩:=Fo u (by omega);rw [hv] at U;simp only [Value.slice.injEq,true_and] at U;obtain ⟨rfl,rfl⟩:=U;have cm:w.cell? ⟨g,m,none⟩=some (.pointer (some ⟨(y.ps[m]).p,0,none⟩)):=(hc m F).trans (by simp [F]);have am:=T _ (jJ F);have a0:decide ((m:Int)<(y.ps.length:Int))=true:=jL (by omega);rw [hv] at c9;have HD:=jp hD;have ab:=jp v;have ac:=fun (t:ByteArray) (ht:t.size<=1099511627776) i (b:Aa w i)=>HD.out.receive (show m<y.pp.length by have:y.pp.length=y.ps.length:=v;omega) t ht i b
  clear hD v o u;clear hc T;clear am;unfold AB;go_enter Tryz.func43,Tryz.ntmps43;go_wp2_with fail;obtain ⟨L,G,d,o0,o1,o2,o3,o4⟩:=BV w (.int .i64 14) (.int .i64 A) (.int .i64 (m:Int)) (.int .i64 C) (.string S) 28;rw [G];clear G;have k0:=d.cell c0;have k9:=d.cell c9;have km:=d.cell cm;have a1:g<L.heap.size:=jF km;have an:y.a<L.heap.size:=jF k0;have V:w.heap.size<L.heap.size:=jF o0;generalize w.heap.size=po at o0 o1 o2 o3 o4 E V |-;go_quiet (fail);go_wp2_with fail;go_quiet (fail);go_wp2_with fail;refine (r _ (d.trans (by (repeat (first|exact jD _|assumption|refine jA ?_|refine jB ?_|refine jC ?_|refine Aa.step_set ?_ (by simp <;>omega) _|refine jE ?_ (by assumption)))))).mono ?_;rintro e K ⟨f,rfl,W,X⟩;have c:Aa L K:=by (repeat (first|exact jD _|assumption|refine jA ?_|refine jB ?_|refine jC ?_|refine Aa.step_set ?_ (by simp <;>omega) _|refine jE ?_ (by assumption)))
  have j0:=c.cell k0;have j2:=c.cell o2;have H:=d.trans c;clear r W d c k0 k9 km o0 o1 o2 o3 o4;go_wp2_with fail;go_region_held3 (fun w'=>w'.cell? ⟨y.a,0,none⟩=some (.pointer (some ⟨y.q,0,none⟩))/\w'.cell? ⟨po,2,none⟩=some (.int .i64 (m:Int))) ((first|exact ⟨l0,l2⟩|exact ⟨Aa.cell (a:=K) (by (repeat (first|exact jD _|assumption|refine jA ?_|refine jB ?_|refine jC ?_|refine Aa.step_set ?_ (by simp <;>omega) _|refine jE ?_ (by assumption)))) j0,Aa.cell (a:=K) (by (repeat (first|exact jD _|assumption|refine jA ?_|refine jB ?_|refine jC ?_|refine Aa.step_set ?_ (by simp <;>omega) _|refine jE ?_ (by assumption)))) j2⟩)) ((go_at_call 79;refine (ac f X _ (by (repeat (first|exact jD _|assumption|refine jA ?_|refine jB ?_|refine jC ?_|refine Aa.step_set ?_ (by simp <;>omega) _|refine jE ?_ (by assumption))))).mono ?_;rintro e w1 ⟨rfl,N,ap,Y,O⟩;have l2:=N ⟨po,2,none⟩ _ E (Aa.cell (a:=K) (by (repeat (first|exact jD _|assumption|refine jA ?_|refine jB ?_|refine jC ?_|refine Aa.step_set ?_ (by simp <;>omega) _|refine jE ?_ (by assumption)))) j2);obtain ⟨M1,I⟩:=Y.at;have l0:w1.cell? ⟨y.a,0,none⟩=some (.pointer (some ⟨y.q,0,none⟩)):=I.1.1 0 _ rfl));have ad:=(show (y.ps[m]).At M1 w1 from I.2.2.2.2.2.2.2.2.2 _ (jJ F))
  have HC:Hid (∀i e w',Aa w1 i->Jy i (y.ps[m]).p (y.ps[m]).speaks (y.ps[m]).has (y.ps[m]).got e w'->El Q.heap.size M0 y w w'):=fun i e w' b Z=>by
   refine HD.out.thenE Y rfl (fun M' aq=>?_);obtain ⟨z',ar⟩:=aq.comes F b Z;refine ⟨_,ar,?_⟩;show ap.length=(y.ps.set m z').length;rw [List.length_set,O];exact ab.out
  clear I Y O HD ab ac j0 j2 H l0 l2 N;generalize y.ps[m]=z at *;obtain ⟨hz,au,ae,af,ag,ah,⟨hg,ai⟩,aj⟩:=ad.open;have P:=fun i (b:Aa w1 i)=>Yz z.p z.speaks z.has hg z.gen z.format z.got z.ng z.no f i (hz.later b) (ai.later b) ae af (ag.later b) ah aj X
  clear ad hz au ae af ag ah ai aj;go_wp2_with fail;refine (P _ (by (repeat (first|exact jD _|assumption|refine jA ?_|refine jB ?_|refine jC ?_|refine Aa.step_set ?_ (by simp <;>omega) _|refine jE ?_ (by assumption))))).mono ?_;intro e w4 Z;have HR:=jp (fun b=>R.out w4 b (HC.out _ e w4 (by (repeat (first|exact jD _|assumption|refine jA ?_|refine jB ?_|refine jC ?_|refine Aa.step_set ?_ (by simp <;>omega) _|refine jE ?_ (by assumption)))) Z));obtain ⟨rfl, -⟩:=Z;clear P HC R;go_wp2
  all_goals
   go_ret;exact HR.out _
 .have J:∀b,decide (0<=B)=b->(b=true->decide (B<(y.ps.length:Int))=false):=fun b h1 h2=>by
   rw [h2] at h1;have:=of_decide_eq_true h1;exact jK (fun h3=>D ⟨this,h3⟩)
  rw [hv] at c9
  have o:=o (by have:y.pp.length=y.ps.length:=v;omega)
  clear u T hD v R
  generalize y.ps.length=n at *
  unfold AB
  go_enter Tryz.func43,Tryz.ntmps43
  go_wp2_with fail
  obtain ⟨L,G,d,o0,o1,o2,o3,o4⟩:=BV w (.int .i64 14) (.int .i64 A) (.int .i64 B) (.int .i64 C) (.string S) 28
  rw [G]
  clear G
  have k0:=d.cell c0
  have k9:=d.cell c9
  have an:y.a<L.heap.size:=jF k0
  have V:w.heap.size<L.heap.size:=jF o0
  generalize w.heap.size=po at o0 o1 o2 o3 o4 E V |-
  have av:decide (0<=B)=false\/(decide (0<=B)=true/\decide (B<(n:Int))=false):=by
   cases h0:decide (0<=B)
   .exact Or.inl rfl
   .exact Or.inr ⟨rfl,J _ h0 rfl⟩
  clear J D
  rcases av with h0|⟨h0,h1⟩
  all_goals
   go_quiet (fail)
   go_wp2_with fail
   refine (r _ (d.trans (by (repeat (first|exact jD _|assumption|refine jA ?_|refine jB ?_|refine jC ?_|refine Aa.step_set ?_ (by simp <;>omega) _|refine jE ?_ (by assumption)))))).mono ?_
   rintro e K ⟨f,rfl,W,X⟩
   have c:Aa L K:=by (repeat (first|exact jD _|assumption|refine jA ?_|refine jB ?_|refine jC ?_|refine Aa.step_set ?_ (by simp <;>omega) _|refine jE ?_ (by assumption)))
   have j0:=c.cell k0
   have j2:=c.cell o2
   have H:=d.trans c
   clear r W
   go_wp2_with fail
   go_region_held3 (fun w'=>Aa K w'/\w'.cell? ⟨y.a,0,none⟩=some (.pointer (some ⟨y.q,0,none⟩))/\w'.cell? ⟨po,2,none⟩=some (.int .i64 B)) ((exact ⟨by (repeat (first|exact jD _|assumption|refine jA ?_|refine jB ?_|refine jC ?_|refine Aa.step_set ?_ (by simp <;>omega) _|refine jE ?_ (by assumption))),Aa.cell (a:=K) (by (repeat (first|exact jD _|assumption|refine jA ?_|refine jB ?_|refine jC ?_|refine Aa.step_set ?_ (by simp <;>omega) _|refine jE ?_ (by assumption)))) j0,Aa.cell (a:=K) (by (repeat (first|exact jD _|assumption|refine jA ?_|refine jB ?_|refine jC ?_|refine Aa.step_set ?_ (by simp <;>omega) _|refine jE ?_ (by assumption)))) j2⟩)) ((go_at_call 79;refine (o f _ (by (repeat (first|exact jD _|assumption|refine jA ?_|refine jB ?_|refine jC ?_|refine Aa.step_set ?_ (by simp <;>omega) _|refine jE ?_ (by assumption))))).mono ?_;rintro e w1 ⟨rfl,aw⟩;have a2:Aa K w1:=(by (repeat (first|exact jD _|assumption|refine jA ?_|refine jB ?_|refine jC ?_|refine Aa.step_set ?_ (by simp <;>omega) _|refine jE ?_ (by assumption))));clear aw))
   go_wp2
   all_goals
    go_ret
    exact aa.out _ _ (H.trans (by (repeat (first|exact jD _|assumption|refine jA ?_|refine jB ?_|refine jC ?_|refine Aa.step_set ?_ (by simp <;>omega) _|refine jE ?_ (by assumption)))))
theorem Xz (N:Aw) (s:Nat) (x:WG) (k:Nat) (hk:k<x.prs.length) (A B C:Int) (S:ByteArray) (w:World) (h:Ao N s x w) (ae:s<=69999):
  Calls Tryz.prog 43 #[.pointer (some ⟨x.p,0,none⟩),.pointer (some ⟨(x.prs[k]).a,0,none⟩),AB 15 A B C S] w (Cc N x.p (s+1)):=by
 have l:=h.pair_at k hk;have Z:Hid (∀D (b:Bool),Aa w D->Cc N x.p (s+1) (.returned (.bool b)) D):=fun D b hb=>⟨b,rfl,x,(h.later hb).up (by omega),rfl⟩
 have hD:=h.dpre k hk ae;have E:=h.even k hk;have t:=fun (F:¬(0<=B/\B<(x.prs[k]).pp.length)) D (b:Aa w D)=>YO B (l.2.1.later b) F
 have J:Hid (∀D (b:Bool),El N.heap.size x.M x.prs[k] w D->Cc N x.p (s+1) (.returned (.bool b)) D):=fun D b hr=>by
  obtain ⟨x',h',hp⟩:=h.rpr k hk hr;exact ⟨b,rfl,x',h',hp⟩
 have G:w.heap.size∉x.M:=fun e=>by have:=(h.2.2.2.2.1 _ e).2;omega
 generalize x.M=M0 at *;generalize x.prs[k]=y at *;generalize x.p=p at *;have c0:=l.1.1 0 _ rfl;have c9:=l.1.1 9 _ rfl;have u:=l.2.2.2.2.2.2.2.1;have O:=l.2.2.2.2.2.2.2.2.2;have ap:=l.2.2.2.2.2.2.2.2.1;have af:=jF c0;simp only at af;obtain ⟨ao,cap,P⟩:=CP u;clear h l;by_cases F:0<=B/\B<y.ps.length
 .obtain ⟨m,rfl⟩:=jM F.1;have o:m<y.ps.length:=by omega
  obtain ⟨g,aq,Q, -,ax,hc⟩:=Fo u (by omega);rw [P] at Q;simp only [Value.slice.injEq,true_and] at Q;obtain ⟨rfl,rfl⟩:=Q;have cm:w.cell? ⟨g,m,none⟩=some (.pointer (some ⟨(y.ps[m]).p,0,none⟩)):=(hc m o).trans (by simp [o]);have ag:=O _ (jJ o);have ay:decide ((m:Int)<(y.ps.length:Int))=true:=jL (by omega);rw [P] at c9;have HD:=jp hD;have aa:=jp E;have ab:=fun D (b:Aa w D)=>HD.out.restartP (show m<y.pp.length by have:y.pp.length=y.ps.length:=E;omega) D b
  clear hD E t u;clear hc O;clear ag;unfold AB;go_enter Tryz.func43,Tryz.ntmps43;go_wp2_with fail;obtain ⟨v,H,c,X,o1,R,o3,o4⟩:=BV w (.int .i64 15) (.int .i64 A) (.int .i64 (m:Int)) (.int .i64 C) (.string S) 28;rw [H];clear H;have Y:=c.cell c0;have k9:=c.cell c9;have km:=c.cell cm;have az:g<v.heap.size:=jF km;have ah:y.a<v.heap.size:=jF Y;have T:w.heap.size<v.heap.size:=jF X;generalize w.heap.size=po at X o1 R o3 o4 G T |-;go_quiet (fail);go_wp2_with fail;go_quiet (fail);go_wp2_with fail;go_region_held3 (fun w'=>w'.cell? ⟨y.a,0,none⟩=some (.pointer (some ⟨y.q,0,none⟩))/\w'.cell? ⟨po,2,none⟩=some (.int .i64 (m:Int))) ((first|exact ⟨l0,l2⟩|exact ⟨Aa.cell (a:=v) (by (repeat (first|exact jD _|assumption|refine jA ?_|refine jB ?_|refine jC ?_|refine Aa.step_set ?_ (by simp <;>omega) _|refine jE ?_ (by assumption)))) Y,Aa.cell (a:=v) (by (repeat (first|exact jD _|assumption|refine jA ?_|refine jB ?_|refine jC ?_|refine Aa.step_set ?_ (by simp <;>omega) _|refine jE ?_ (by assumption)))) R⟩)) ((go_at_call 81;refine (ab _ (by (repeat (first|exact jD _|assumption|refine jA ?_|refine jB ?_|refine jC ?_|refine Aa.step_set ?_ (by simp <;>omega) _|refine jE ?_ (by assumption))))).mono ?_;rintro e i ⟨rfl,K,ai,U,L⟩;have l2:=K ⟨po,2,none⟩ _ G (Aa.cell (a:=v) (by (repeat (first|exact jD _|assumption|refine jA ?_|refine jB ?_|refine jC ?_|refine Aa.step_set ?_ (by simp <;>omega) _|refine jE ?_ (by assumption)))) R);obtain ⟨M1,d⟩:=U.at;have l0:i.cell? ⟨y.a,0,none⟩=some (.pointer (some ⟨y.q,0,none⟩)):=d.1.1 0 _ rfl));have j9:i.cell? ⟨y.a,9,none⟩=some y.vp:=d.1.1 9 _ rfl;have r:i.ownsRow N.heap.size 101 1 y.vp y.ps.length (y.ps.map fun z=>Value.pointer (some ⟨z.p,0,none⟩)):=d.2.2.2.2.2.2.2.1;have V:=(show (y.ps[m]).At M1 i from d.2.2.2.2.2.2.2.2.2 _ (jJ o));obtain ⟨g1,ar,W, -, -,ac⟩:=Fo r (by omega);rw [P] at W;simp only [Value.slice.injEq,true_and,Option.some.injEq,Addr.mk.injEq,and_true] at W;obtain ⟨rfl,rfl⟩:=W;have jm:i.cell? ⟨g,m,none⟩=some (.pointer (some ⟨(y.ps[m]).p,0,none⟩)):=(ac m o).trans (by simp [o]);have jf:=World.ownsRow.frozenAt (P ▸ r) m;have z0:=V.1.1.1;have aj:=V.2.1;rw [P] at j9;have au:po<i.heap.size:=jF l2;have av:y.a<i.heap.size:=jF j9;have ad:g<i.heap.size:=jF jm;have aw:(y.ps[m]).p<i.heap.size:=jF z0
  have HW:Hid (El N.heap.size M0 y w ((i.setCell ⟨g,m,none⟩ (.pointer (some ⟨i.heap.size,0,none⟩))).alloc (.cells #[.int .i64 (y.ps[m]).speaks,.pointer none,.int .i64 0,.int .i64 0,.slice none 0 0,.bool false] 103))):=by
   show El _ _ _ _ _;rw [Wu _ _ _ _ ad];have ak:BX (i.alloc (.cells #[.int .i64 (y.ps[m]).speaks,.pointer none,.int .i64 0,.int .i64 0,.slice none 0 0,.bool false] 103)) i.heap.size (y.ps[m]).speaks (.pointer none) 0 0 (.slice none 0 0) false:=⟨⟨by simp,by simp,by simp,by simp,by simp,by simp⟩,fun j=>by simp⟩;refine ⟨_,HD.out.then U rfl (fun M' al=>al.restart (pz:=i.heap.size) (f:=(y.ps[m]).speaks) (Aa.step_alloc (jD _) _) (jH _) (by simp) ak aj o P),?_⟩;show ai.length=(y.ps.set m _).length;rw [List.length_set,L];exact aa.out
  clear d U L HD aa ab r ac V K c Y k9 km X o1 R o3 o4 c0 c9 cm;generalize y.ps[m]=z at *;generalize y.ps.length=n at *;go_wp2_with fail;go_region
  all_goals
   have HF:=jp (fun b=>J.out _ b (HW.out.later (jB (jD _))));clear HW J;go_wp2
   all_goals
    go_ret
    first|exact HF.out _|exact J.out _ _ (HW.out.later (by (repeat (first|exact jD _|assumption|refine jA ?_|refine jB ?_|refine jC ?_|refine Aa.step_set ?_ (by simp <;>omega) _|refine jE ?_ (by assumption)))))
 .have I:∀b,decide (0<=B)=b->(b=true->decide (B<(y.ps.length:Int))=false):=fun b h1 h2=>by
   rw [h2] at h1;have:=of_decide_eq_true h1;exact jK (fun h3=>F ⟨this,h3⟩)
  rw [P] at c9
  have t:=t (by have:y.pp.length=y.ps.length:=E;omega)
  clear u O hD E J
  generalize y.ps.length=n at *
  unfold AB
  go_enter Tryz.func43,Tryz.ntmps43
  go_wp2_with fail
  obtain ⟨v,H,c,X,o1,R,o3,o4⟩:=BV w (.int .i64 15) (.int .i64 A) (.int .i64 B) (.int .i64 C) (.string S) 28
  rw [H]
  clear H
  have Y:=c.cell c0
  have k9:=c.cell c9
  have ah:y.a<v.heap.size:=jF Y
  have T:w.heap.size<v.heap.size:=jF X
  generalize w.heap.size=po at X o1 R o3 o4 G T |-
  have am:decide (0<=B)=false\/(decide (0<=B)=true/\decide (B<(n:Int))=false):=by
   cases h0:decide (0<=B)
   .exact Or.inl rfl
   .exact Or.inr ⟨rfl,I _ h0 rfl⟩
  clear I F
  rcases am with h0|⟨h0,h1⟩
  all_goals
   go_quiet (fail)
   go_wp2_with fail
   go_region_held3 (fun w'=>Aa v w'/\w'.cell? ⟨y.a,0,none⟩=some (.pointer (some ⟨y.q,0,none⟩))/\w'.cell? ⟨po,2,none⟩=some (.int .i64 B)) ((exact ⟨by (repeat (first|exact jD _|assumption|refine jA ?_|refine jB ?_|refine jC ?_|refine Aa.step_set ?_ (by simp <;>omega) _|refine jE ?_ (by assumption))),Aa.cell (a:=v) (by (repeat (first|exact jD _|assumption|refine jA ?_|refine jB ?_|refine jC ?_|refine Aa.step_set ?_ (by simp <;>omega) _|refine jE ?_ (by assumption)))) Y,Aa.cell (a:=v) (by (repeat (first|exact jD _|assumption|refine jA ?_|refine jB ?_|refine jC ?_|refine Aa.step_set ?_ (by simp <;>omega) _|refine jE ?_ (by assumption)))) R⟩)) ((go_at_call 81;refine (t _ (by (repeat (first|exact jD _|assumption|refine jA ?_|refine jB ?_|refine jC ?_|refine Aa.step_set ?_ (by simp <;>omega) _|refine jE ?_ (by assumption))))).mono ?_;rintro e i ⟨rfl,an⟩;have a0:Aa v i:=(by (repeat (first|exact jD _|assumption|refine jA ?_|refine jB ?_|refine jC ?_|refine Aa.step_set ?_ (by simp <;>omega) _|refine jE ?_ (by assumption))));clear an))
   go_wp2
   all_goals
    go_ret
    exact Z.out _ _ (c.trans (by (repeat (first|exact jD _|assumption|refine jA ?_|refine jB ?_|refine jC ?_|refine Aa.step_set ?_ (by simp <;>omega) _|refine jE ?_ (by assumption)))))
theorem WA (W0:Aw) (s:Nat) (x:WG) (k:Nat) (hk:k<x.prs.length) (A B C:Int) (S:ByteArray) (w:World) (h:Ao W0 s x w) (_hs:s<=69999):
  Calls Tryz.prog 43 #[.pointer (some ⟨x.p,0,none⟩),.pointer (some ⟨(x.prs[k]).a,0,none⟩),AB 16 A B C S] w (Cc W0 x.p (s+1)):=by
 have hat:=h.pair_at k hk;have hend:Hid (∀wx (b:Bool),Aa w wx->Cc W0 x.p (s+1) (.returned (.bool b)) wx):=fun wx b hb=>⟨b,rfl,x,(h.later hb).up (by omega),rfl⟩
 have hsvc:=fun wx (b:Aa w wx)=>RW B (hat.2.1.later b)
 have hpoM:w.heap.size∉x.M:=fun e=>by have:=(h.2.2.2.2.1 _ e).2;omega
 generalize x.M=M0 at *;generalize x.prs[k]=y at *;generalize x.p=p at *;have c0:=hat.1.1 0 _ rfl;have c9:=hat.1.1 9 _ rfl;have hrow:=hat.2.2.2.2.2.2.2.1;have hps:=hat.2.2.2.2.2.2.2.2.2;have hlen:=hat.2.2.2.2.2.2.2.2.1;have hal:=jF c0;simp only at hal;obtain ⟨ao,cap,hv⟩:=CP hrow;clear h hat;by_cases hin:0<=B/\B<y.ps.length
 .obtain ⟨m,rfl⟩:=jM hin.1;have hml:m<y.ps.length:=by omega
  obtain ⟨g,cap',hv', -,hgl,hc⟩:=Fo hrow (by omega);rw [hv] at hv';simp only [Value.slice.injEq,true_and] at hv';obtain ⟨rfl,rfl⟩:=hv';have cm:w.cell? ⟨g,m,none⟩=some (.pointer (some ⟨(y.ps[m]).p,0,none⟩)):=(hc m hml).trans (by simp [hml]);have hpl:=hps _ (jJ hml);have hmb:decide ((m:Int)<(y.ps.length:Int))=true:=jL (by omega);rw [hv] at c9;clear hc hps;clear hrow;generalize y.ps[m]=z at *;generalize y.ps.length=n at *;obtain ⟨hz,hsp,hze,hzf,hzg,hzn,⟨hg,hzh⟩,hzb⟩:=hpl.open;have hgen:=fun wx (b:Aa w wx)=>LC z.p z.speaks z.has hg z.gen z.format z.got z.no wx (hz.later b) (hzh.later b)
  have z5c:=hz.1.2.2.2.2.2;clear hzh;clear hpl;unfold AB;go_enter Tryz.func43,Tryz.ntmps43;go_wp2_with fail;obtain ⟨wo,hwo,hbo,o0,o1,o2,o3,o4⟩:=BV w (.int .i64 16) (.int .i64 A) (.int .i64 (m:Int)) (.int .i64 C) (.string S) 28;rw [hwo];clear hwo;have k0:=hbo.cell c0;have k9:=hbo.cell c9;have km:=hbo.cell cm;have hgo:g<wo.heap.size:=jF km;have hao:y.a<wo.heap.size:=jF k0;have hpo:w.heap.size<wo.heap.size:=jF o0;generalize w.heap.size=po at o0 o1 o2 o3 o4 hpoM hpo |-;go_quiet (fail);go_wp2_with fail;go_quiet (fail);go_wp2_with fail;go_region_held3 (fun w'=>Aa wo w'/\w'.cell? ⟨y.a,0,none⟩=some (.pointer (some ⟨y.q,0,none⟩))/\w'.cell? ⟨po,2,none⟩=some (.int .i64 (m:Int))) ((exact ⟨by (repeat (first|exact jD _|assumption|refine jA ?_|refine jB ?_|refine jC ?_|refine Aa.step_set ?_ (by simp <;>omega) _|refine jE ?_ (by assumption))),Aa.cell (a:=wo) (by (repeat (first|exact jD _|assumption|refine jA ?_|refine jB ?_|refine jC ?_|refine Aa.step_set ?_ (by simp <;>omega) _|refine jE ?_ (by assumption)))) k0,Aa.cell (a:=wo) (by (repeat (first|exact jD _|assumption|refine jA ?_|refine jB ?_|refine jC ?_|refine Aa.step_set ?_ (by simp <;>omega) _|refine jE ?_ (by assumption)))) o2⟩)) ((go_at_call 82;refine (hsvc _ (by (repeat (first|exact jD _|assumption|refine jA ?_|refine jB ?_|refine jC ?_|refine Aa.step_set ?_ (by simp <;>omega) _|refine jE ?_ (by assumption))))).mono ?_;rintro e w1 ⟨g1,n1,rfl,hw1⟩;have hb1:Aa wo w1:=(by (repeat (first|exact jD _|assumption|refine jA ?_|refine jB ?_|refine jC ?_|refine Aa.step_set ?_ (by simp <;>omega) _|refine jE ?_ (by assumption))));clear hw1));have hbw1:=hbo.trans hb1;have z5:=hbw1.cell z5c;clear hb1 hbo k0 k9 km o0 o1 o2 o3 o4;go_wp2_with fail;refine (hgen _ (by (repeat (first|exact jD _|assumption|refine jA ?_|refine jB ?_|refine jC ?_|refine Aa.step_set ?_ (by simp <;>omega) _|refine jE ?_ (by assumption))))).mono ?_;rintro e w2 ⟨rfl,rfl⟩;clear hgen;cases hno:z.no
  all_goals
   rw [hno] at z5;go_wp2
   all_goals
    go_ret;exact hend.out _ _ (by (repeat (first|exact jD _|assumption|refine jA ?_|refine jB ?_|refine jC ?_|refine Aa.step_set ?_ (by simp <;>omega) _|refine jE ?_ (by assumption))))
 .have hnone:∀b,decide (0<=B)=b->(b=true->decide (B<(y.ps.length:Int))=false):=fun b h1 h2=>by
   rw [h2] at h1;have:=of_decide_eq_true h1;exact jK (fun h3=>hin ⟨this,h3⟩)
  rw [hv] at c9
  clear hrow hps
  generalize y.ps.length=n at *
  unfold AB
  go_enter Tryz.func43,Tryz.ntmps43
  go_wp2_with fail
  obtain ⟨wo,hwo,hbo,o0,o1,o2,o3,o4⟩:=BV w (.int .i64 16) (.int .i64 A) (.int .i64 B) (.int .i64 C) (.string S) 28
  rw [hwo]
  clear hwo
  have k0:=hbo.cell c0
  have k9:=hbo.cell c9
  have hao:y.a<wo.heap.size:=jF k0
  have hpo:w.heap.size<wo.heap.size:=jF o0
  generalize w.heap.size=po at o0 o1 o2 o3 o4 hpoM hpo |-
  have h01:decide (0<=B)=false\/(decide (0<=B)=true/\decide (B<(n:Int))=false):=by
   cases h0:decide (0<=B)
   .exact Or.inl rfl
   .exact Or.inr ⟨rfl,hnone _ h0 rfl⟩
  clear hnone hin
  rcases h01 with h0|⟨h0,h1⟩
  all_goals
   go_quiet (fail)
   go_wp2_with fail
   go_region_held3 (fun w'=>Aa wo w'/\w'.cell? ⟨y.a,0,none⟩=some (.pointer (some ⟨y.q,0,none⟩))/\w'.cell? ⟨po,2,none⟩=some (.int .i64 B)) ((exact ⟨by (repeat (first|exact jD _|assumption|refine jA ?_|refine jB ?_|refine jC ?_|refine Aa.step_set ?_ (by simp <;>omega) _|refine jE ?_ (by assumption))),Aa.cell (a:=wo) (by (repeat (first|exact jD _|assumption|refine jA ?_|refine jB ?_|refine jC ?_|refine Aa.step_set ?_ (by simp <;>omega) _|refine jE ?_ (by assumption)))) k0,Aa.cell (a:=wo) (by (repeat (first|exact jD _|assumption|refine jA ?_|refine jB ?_|refine jC ?_|refine Aa.step_set ?_ (by simp <;>omega) _|refine jE ?_ (by assumption)))) o2⟩)) ((go_at_call 82;refine (hsvc _ (by (repeat (first|exact jD _|assumption|refine jA ?_|refine jB ?_|refine jC ?_|refine Aa.step_set ?_ (by simp <;>omega) _|refine jE ?_ (by assumption))))).mono ?_;rintro e w1 ⟨g1,n1,rfl,hw1⟩;have hb1:Aa wo w1:=(by (repeat (first|exact jD _|assumption|refine jA ?_|refine jB ?_|refine jC ?_|refine Aa.step_set ?_ (by simp <;>omega) _|refine jE ?_ (by assumption))));clear hw1))
   go_wp2
   all_goals
    go_ret
    exact hend.out _ _ (hbo.trans (by (repeat (first|exact jD _|assumption|refine jA ?_|refine jB ?_|refine jC ?_|refine Aa.step_set ?_ (by simp <;>omega) _|refine jE ?_ (by assumption)))))
theorem Sz (W0:Aw) (s:Nat) (x:WG) (k:Nat) (hk:k<x.prs.length) (A B C:Int) (S:ByteArray) (w:World) (h:Ao W0 s x w) (_hs:s<=69999) (hS:S.size<=65536):
  Calls Tryz.prog 43 #[.pointer (some ⟨x.p,0,none⟩),.pointer (some ⟨(x.prs[k]).a,0,none⟩),AB 17 A B C S] w (Cc W0 x.p (s+1)):=by
 have hat:=h.pair_at k hk;have hend:Hid (∀wx (b:Bool),Aa w wx->Cc W0 x.p (s+1) (.returned (.bool b)) wx):=fun wx b hb=>⟨b,rfl,x,(h.later hb).up (by omega),rfl⟩
 have hsvc:=fun wx (b:Aa w wx)=>XR B S (hat.2.1.later b) (by omega)
 have hpoM:w.heap.size∉x.M:=fun e=>by have:=(h.2.2.2.2.1 _ e).2;omega
 generalize x.M=M0 at *;generalize x.prs[k]=y at *;generalize x.p=p at *;have c0:=hat.1.1 0 _ rfl;have c9:=hat.1.1 9 _ rfl;have hrow:=hat.2.2.2.2.2.2.2.1;have hps:=hat.2.2.2.2.2.2.2.2.2;have hlen:=hat.2.2.2.2.2.2.2.2.1;have hal:=jF c0;simp only at hal;obtain ⟨ao,cap,hv⟩:=CP hrow;clear h hat;by_cases hin:0<=B/\B<y.ps.length
 .obtain ⟨m,rfl⟩:=jM hin.1;have hml:m<y.ps.length:=by omega
  obtain ⟨g,cap',hv', -,hgl,hc⟩:=Fo hrow (by omega);rw [hv] at hv';simp only [Value.slice.injEq,true_and] at hv';obtain ⟨rfl,rfl⟩:=hv';have cm:w.cell? ⟨g,m,none⟩=some (.pointer (some ⟨(y.ps[m]).p,0,none⟩)):=(hc m hml).trans (by simp [hml]);have hpl:=hps _ (jJ hml);have hmb:decide ((m:Int)<(y.ps.length:Int))=true:=jL (by omega);rw [hv] at c9;clear hc hps;clear hrow;generalize y.ps[m]=z at *;generalize y.ps.length=n at *;obtain ⟨hz,hsp,hze,hzf,hzg,hzn,⟨hg,hzh⟩,hzb⟩:=hpl.open;clear hpl;unfold AB;go_enter Tryz.func43,Tryz.ntmps43;go_wp2_with fail;obtain ⟨wo,hwo,hbo,o0,o1,o2,o3,o4⟩:=BV w (.int .i64 17) (.int .i64 A) (.int .i64 (m:Int)) (.int .i64 C) (.string S) 28;rw [hwo];clear hwo;have k0:=hbo.cell c0;have k9:=hbo.cell c9;have km:=hbo.cell cm;have hgo:g<wo.heap.size:=jF km;have hao:y.a<wo.heap.size:=jF k0;have hpo:w.heap.size<wo.heap.size:=jF o0;generalize w.heap.size=po at o0 o1 o2 o3 o4 hpoM hpo |-;go_quiet (fail);go_wp2_with fail;go_quiet (fail);go_wp2_with fail;go_region_held3 (fun w'=>Aa wo w'/\w'.cell? ⟨y.a,0,none⟩=some (.pointer (some ⟨y.q,0,none⟩))/\w'.cell? ⟨po,2,none⟩=some (.int .i64 (m:Int))/\w'.cell? ⟨po,4,none⟩=some (.string S)) ((exact ⟨by (repeat (first|exact jD _|assumption|refine jA ?_|refine jB ?_|refine jC ?_|refine Aa.step_set ?_ (by simp <;>omega) _|refine jE ?_ (by assumption))),Aa.cell (a:=wo) (by (repeat (first|exact jD _|assumption|refine jA ?_|refine jB ?_|refine jC ?_|refine Aa.step_set ?_ (by simp <;>omega) _|refine jE ?_ (by assumption)))) k0,Aa.cell (a:=wo) (by (repeat (first|exact jD _|assumption|refine jA ?_|refine jB ?_|refine jC ?_|refine Aa.step_set ?_ (by simp <;>omega) _|refine jE ?_ (by assumption)))) o2,Aa.cell (a:=wo) (by (repeat (first|exact jD _|assumption|refine jA ?_|refine jB ?_|refine jC ?_|refine Aa.step_set ?_ (by simp <;>omega) _|refine jE ?_ (by assumption)))) o4⟩)) ((go_at_call 84;refine (hsvc _ (by (repeat (first|exact jD _|assumption|refine jA ?_|refine jB ?_|refine jC ?_|refine Aa.step_set ?_ (by simp <;>omega) _|refine jE ?_ (by assumption))))).mono ?_;rintro e w1 ⟨t1,n1,rfl,hw1⟩;have hb1:Aa wo w1:=(by (repeat (first|exact jD _|assumption|refine jA ?_|refine jB ?_|refine jC ?_|refine Aa.step_set ?_ (by simp <;>omega) _|refine jE ?_ (by assumption))));clear hw1));have hbw1:=hbo.trans hb1;have z1:=hbw1.cell hz.1.2.1;have m4:=hb1.cell o4;have hzh1:=hzh.later hbw1;clear hbo k0 k9 km o0 o1 o2 o3 o4 hz hzh hb1;rcases hzh1 with ⟨hh, -⟩|⟨q,c',B',E',hh,hst,hok,hW⟩
  .rw [hh] at z1;go_wp2
   all_goals
    go_ret;exact hend.out _ _ (by (repeat (first|exact jD _|assumption|refine jA ?_|refine jB ?_|refine jC ?_|refine Aa.step_set ?_ (by simp <;>omega) _|refine jE ?_ (by assumption))))
  .rw [hh] at z1;have hch:=fun wx (b:Aa w1 wx)=>Ys q c' hg B' E' S wx (hst.later b) hok hW (by omega)
   clear hst hok hW;go_wp2_with fail;go_region_held3 (fun w'=>Aa w1 w'/\w'.cell? ⟨z.p,1,none⟩=some (.pointer (some ⟨q,0,none⟩))/\w'.cell? ⟨po,4,none⟩=some (.string S)) ((exact ⟨by (repeat (first|exact jD _|assumption|refine jA ?_|refine jB ?_|refine jC ?_|refine Aa.step_set ?_ (by simp <;>omega) _|refine jE ?_ (by assumption))),Aa.cell (a:=w1) (by (repeat (first|exact jD _|assumption|refine jA ?_|refine jB ?_|refine jC ?_|refine Aa.step_set ?_ (by simp <;>omega) _|refine jE ?_ (by assumption)))) z1,Aa.cell (a:=w1) (by (repeat (first|exact jD _|assumption|refine jA ?_|refine jB ?_|refine jC ?_|refine Aa.step_set ?_ (by simp <;>omega) _|refine jE ?_ (by assumption)))) m4⟩)) ((go_at_call 69;refine (hch _ (by (repeat (first|exact jD _|assumption|refine jA ?_|refine jB ?_|refine jC ?_|refine Aa.step_set ?_ (by simp <;>omega) _|refine jE ?_ (by assumption))))).mono ?_;rintro e w3 ⟨id,er,rfl,hb3⟩));have hb13:Aa w1 w3:=by (repeat (first|exact jD _|assumption|refine jA ?_|refine jB ?_|refine jC ?_|refine Aa.step_set ?_ (by simp <;>omega) _|refine jE ?_ (by assumption)))
   have hbw3:=hbw1.trans hb13;clear hch m4 hb3 hb13;go_wp2
   all_goals
    go_ret;exact hend.out _ _ (by (repeat (first|exact jD _|assumption|refine jA ?_|refine jB ?_|refine jC ?_|refine Aa.step_set ?_ (by simp <;>omega) _|refine jE ?_ (by assumption))))
 .have hnone:∀b,decide (0<=B)=b->(b=true->decide (B<(y.ps.length:Int))=false):=fun b h1 h2=>by
   rw [h2] at h1;have:=of_decide_eq_true h1;exact jK (fun h3=>hin ⟨this,h3⟩)
  rw [hv] at c9
  clear hrow hps
  generalize y.ps.length=n at *
  unfold AB
  go_enter Tryz.func43,Tryz.ntmps43
  go_wp2_with fail
  obtain ⟨wo,hwo,hbo,o0,o1,o2,o3,o4⟩:=BV w (.int .i64 17) (.int .i64 A) (.int .i64 B) (.int .i64 C) (.string S) 28
  rw [hwo]
  clear hwo
  have k0:=hbo.cell c0
  have k9:=hbo.cell c9
  have hao:y.a<wo.heap.size:=jF k0
  have hpo:w.heap.size<wo.heap.size:=jF o0
  generalize w.heap.size=po at o0 o1 o2 o3 o4 hpoM hpo |-
  have h01:decide (0<=B)=false\/(decide (0<=B)=true/\decide (B<(n:Int))=false):=by
   cases h0:decide (0<=B)
   .exact Or.inl rfl
   .exact Or.inr ⟨rfl,hnone _ h0 rfl⟩
  clear hnone hin
  rcases h01 with h0|⟨h0,h1⟩
  all_goals
   go_quiet (fail)
   go_wp2_with fail
   go_region_held3 (fun w'=>Aa wo w'/\w'.cell? ⟨y.a,0,none⟩=some (.pointer (some ⟨y.q,0,none⟩))/\w'.cell? ⟨po,2,none⟩=some (.int .i64 B)/\w'.cell? ⟨po,4,none⟩=some (.string S)) ((exact ⟨by (repeat (first|exact jD _|assumption|refine jA ?_|refine jB ?_|refine jC ?_|refine Aa.step_set ?_ (by simp <;>omega) _|refine jE ?_ (by assumption))),Aa.cell (a:=wo) (by (repeat (first|exact jD _|assumption|refine jA ?_|refine jB ?_|refine jC ?_|refine Aa.step_set ?_ (by simp <;>omega) _|refine jE ?_ (by assumption)))) k0,Aa.cell (a:=wo) (by (repeat (first|exact jD _|assumption|refine jA ?_|refine jB ?_|refine jC ?_|refine Aa.step_set ?_ (by simp <;>omega) _|refine jE ?_ (by assumption)))) o2,Aa.cell (a:=wo) (by (repeat (first|exact jD _|assumption|refine jA ?_|refine jB ?_|refine jC ?_|refine Aa.step_set ?_ (by simp <;>omega) _|refine jE ?_ (by assumption)))) o4⟩)) ((go_at_call 84;refine (hsvc _ (by (repeat (first|exact jD _|assumption|refine jA ?_|refine jB ?_|refine jC ?_|refine Aa.step_set ?_ (by simp <;>omega) _|refine jE ?_ (by assumption))))).mono ?_;rintro e w1 ⟨t1,n1,rfl,hw1⟩;have hb1:Aa wo w1:=(by (repeat (first|exact jD _|assumption|refine jA ?_|refine jB ?_|refine jC ?_|refine Aa.step_set ?_ (by simp <;>omega) _|refine jE ?_ (by assumption))));clear hw1))
   go_wp2
   all_goals
    go_ret
    exact hend.out _ _ (hbo.trans (by (repeat (first|exact jD _|assumption|refine jA ?_|refine jB ?_|refine jC ?_|refine Aa.step_set ?_ (by simp <;>omega) _|refine jE ?_ (by assumption)))))
end Go.Proofs.YtpapdkhjdelfcaaGreat
