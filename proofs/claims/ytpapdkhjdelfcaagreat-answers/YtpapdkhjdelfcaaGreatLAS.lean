import Derived.Test.YtpapdkhjdelfcaaGreatLAR
namespace Go.Proofs.YtpapdkhjdelfcaaGreat
open Go.RowKit
set_option maxRecDepth 100000
set_option maxHeartbeats 4000000
def Ss (q fm g:Nat) (c:Ac) (l m:Value) (cg cf:Nat) (T:List TP) (k:Bool) (w:World) (e:Ending) (w':World):Prop:=e= .returned (.tuple #[])/\Ab [q] w w'/\
 ((∃ d f i a b, Bj (Cg T) = some (cf, cg, d, f, i) /\ Ae q 208 (BD fm cg d a b 0 0 0 (.slice none 0 0) k) w' /\ AJ w.heap.size w' a f /\ AS w.heap.size w' b i) \/
  ((∀ d f i, Bj (Cg T) ≠ some (cf, cg, d, f, i)) /\ Ae q 208 (BD fm g c l m 0 0 0 (.slice none 0 0) k) w'))
theorem NW (q fm g:Nat) (c:Ac) (m k:Value) (cg cf J:Nat) (vT:Value) (i:Bool) (T:List TP) (w:World) (h:Ae q 208 (BD fm g c m k cg cf J vT i) w) (Y:AN w vT T) (hl:T.length<=65536) (hs:∀p∈T,p.2.length<=65536):
  Calls Tryz.prog 198 #[.pointer (some ⟨q,0,none⟩)] w (Ss q fm g c m k cg cf T i w):=by
 unfold BD at h;obtain ⟨z,cap,rfl⟩:=B8 Y;have aq:=h.lt;have HX:=jp h;have c0:=h.cell 0 rfl;have f0:=h.free 0;have c1:=h.cell 1 rfl;have f1:=h.free 1;have a:=h.cell 2 rfl;have A:=h.free 2;have c3:=h.cell 3 rfl;have f3:=h.free 3;have c4:=h.cell 4 rfl;have f4:=h.free 4;have c5:=h.cell 5 rfl;have f5:=h.free 5;have c6:=h.cell 6 rfl;have f6:=h.free 6;have c7:=h.cell 7 rfl;have f7:=h.free 7;have c8:=h.cell 8 rfl;have f8:=h.free 8;have c9:=h.cell 9 rfl;have f9:=h.free 9;have aa:=h.cell 10 rfl;have ab:=h.free 10;have ac:=h.cell 11 rfl;have ad:=h.free 11;have ae:=h.cell 12 rfl;have af:=h.free 12;have ag:=h.cell 13 rfl;have ah:=h.free 13;have ai:=h.cell 14 rfl;have aj:=h.free 14
 have s:(Value.slice z T.length cap).ownBlock≠some q:=fun e=>by
  rcases Y.2 with ⟨g1,_⟩|⟨g',an,ar,g1,_,f,_⟩
  .rw [g1] at e;cases e
  .rw [g1] at e;have Z:g'=q:=by simpa [Value.ownBlock] using e
   subst Z;rw [Ae,f] at h;injection h with h
   injection h with _ h
   revert h;decide
 obtain ⟨u,o⟩:∃u,u=(((((w.setCell ⟨q,10,none⟩ (.int .i64 0)).setCell ⟨q,11,none⟩ (.int .i64 0)).setCell ⟨q,12,none⟩ (.int .i64 0)).setCell ⟨q,13,none⟩ (.slice none 0 0)).alloc (.cells #[.int .i64 (cg:Int),.int .i64 (cf:Int),.int .i64 (J:Int),.slice z T.length cap] 206)):=⟨_,rfl⟩;have M:Hid (Ae q 208 #[.int .i64 (fm:Int),.int .i64 (g:Int),.int .i64 c.alg,.int .i64 c.slots,.int .i64 c.points,.int .i64 c.probes,.string c.key,.int .i64 c.formats,m,k,.int .i64 0,.int .i64 0,.int .i64 0,.slice none 0 0,.bool i] u):=by show Ae _ _ _ u;rw [o];exact Ae.alloc (((((HX.out).set 10 (.int .i64 0) (cs':=#[.int .i64 (fm:Int),.int .i64 (g:Int),.int .i64 c.alg,.int .i64 c.slots,.int .i64 c.points,.int .i64 c.probes,.string c.key,.int .i64 c.formats,m,k,.int .i64 0,.int .i64 (cf:Int),.int .i64 (J:Int),.slice z T.length cap,.bool i]) rfl).set 11 (.int .i64 0) (cs':=#[.int .i64 (fm:Int),.int .i64 (g:Int),.int .i64 c.alg,.int .i64 c.slots,.int .i64 c.points,.int .i64 c.probes,.string c.key,.int .i64 c.formats,m,k,.int .i64 0,.int .i64 0,.int .i64 (J:Int),.slice z T.length cap,.bool i]) rfl).set 12 (.int .i64 0) (cs':=#[.int .i64 (fm:Int),.int .i64 (g:Int),.int .i64 c.alg,.int .i64 c.slots,.int .i64 c.points,.int .i64 c.probes,.string c.key,.int .i64 c.formats,m,k,.int .i64 0,.int .i64 0,.int .i64 0,.slice z T.length cap,.bool i]) rfl).set 13 (.slice none 0 0) (cs':=#[.int .i64 (fm:Int),.int .i64 (g:Int),.int .i64 c.alg,.int .i64 c.slots,.int .i64 c.points,.int .i64 c.probes,.string c.key,.int .i64 c.formats,m,k,.int .i64 0,.int .i64 0,.int .i64 0,.slice none 0 0,.bool i]) rfl) _
 have v:Ae w.heap.size 206 #[.int .i64 (cg:Int),.int .i64 (cf:Int),.int .i64 (J:Int),.slice z T.length cap] u:=by
  rw [o];have hz:((((w.setCell ⟨q,10,none⟩ (.int .i64 0)).setCell ⟨q,11,none⟩ (.int .i64 0)).setCell ⟨q,12,none⟩ (.int .i64 0)).setCell ⟨q,13,none⟩ (.slice none 0 0)).heap.size=w.heap.size:=js
  have:=Ae.new ((((w.setCell ⟨q,10,none⟩ (.int .i64 0)).setCell ⟨q,11,none⟩ (.int .i64 0)).setCell ⟨q,12,none⟩ (.int .i64 0)).setCell ⟨q,13,none⟩ (.slice none 0 0)) 206 #[.int .i64 (cg:Int),.int .i64 (cf:Int),.int .i64 (J:Int),.slice z T.length cap];rw [hz] at this;exact this
 have N:AN u (.slice z T.length cap) T:=by
  rw [o];exact World.ownsRow.alloc (ownsRow_setCell_other (ownsRow_setCell_other (ownsRow_setCell_other (ownsRow_setCell_other Y s _) s _) s _) s _) _
 have B:Hid (Ab [q] w u):=by
  show Ab _ _ _;rw [o];exact (((((Ab.refl [q] w).set js _).set js _).set js _).set js _).alloc _
 have H1:=jp (SI w.heap.size _ T u (v.cell 3 rfl) N hl hs);have O:=OP hs
 have C:(Cg T).length<=4294967296:=by
  have:65536 * T.length<=65536 * 65536:=Nat.mul_le_mul (jH _) hl;omega
 have d:=fun wx=>JL (Ai (Cg T)) wx (by simp [Ai,ByteArray.size];omega)
 rw [Fs] at d;have ak:=jp v;have al:Hid (w.heap.size<u.heap.size):=v.lt;have au:q≠w.heap.size:=jo
 clear h Y v N O s;obtain ⟨D,E⟩:∃D,D=Cg T:=⟨_,rfl⟩;rw [<-E] at H1 C d;have x:=jp E;clear E;go_enter Tryz.func198,Tryz.ntmps198;go_wp2_with fail;rw [<-o];clear o c0 c1 a c3 c4 c5 c6 c7 c8 c9 aa ac ae ag ai f0 f1 A f3 f4 f5 f6 f7 f8 f9 ab ad af ah aj;refine H1.out.mono ?_;rintro e w1 ⟨rfl,P⟩;have F:=jp P;clear P H1;go_wp2_with fail;rcases hi:Bj D with _|⟨A,f,a,n,r⟩
 .rw [hi] at d;unfold FH CU at d;refine (d _).mono ?_;rintro e w2 ⟨t,rfl⟩;have l:=jp (F.out.trans t);have y:=jp (M.out.bel (l.out.step_alloc (.cells #[.int .i64 0,.int .i64 0,.int .i64 0,.int .i64 0,.int .i64 0,.int .i64 0,.string ⟨#[]⟩,.int .i64 0,.slice none 0 0,.slice none 0 0] 135)));have am:=jp (B.out.step (l.out.step_alloc (.cells #[.int .i64 0,.int .i64 0,.int .i64 0,.int .i64 0,.int .i64 0,.int .i64 0,.string ⟨#[]⟩,.int .i64 0,.slice none 0 0,.slice none 0 0] 135)));have G:Hid (∀a n r,Bj D≠some (cf,cg,a,n,r)):=fun _ _ _ e=>by rw [hi] at e;cases e
  clear t d hi;go_wp2;go_end0;exact ⟨rfl,am.out,Or.inr ⟨by rw [<-x.out];exact G.out,y.out⟩⟩
 .rw [hi] at d;unfold FH D8 at d;refine (d _).mono ?_;rintro e w2 ⟨t,av,aw,rfl,H,I⟩;obtain ⟨K,L,rfl⟩:=B8 H;obtain ⟨Q,R,rfl⟩:=B8 I;have l:=jp (F.out.trans t);have b:=M.out.bel l.out;have D2:=ak.out.bel l.out;have d0:=D2.cell 0 rfl;have d1:=D2.cell 1 rfl;have ax:w.heap.size<w2.heap.size:=D2.lt;have ap:q<w2.heap.size:=b.lt;have y:=jp b;have x0:=b.cell 0 rfl;have y0:=b.free 0;have x1:=b.cell 1 rfl;have y1:=b.free 1;have x2:=b.cell 2 rfl;have y2:=b.free 2;have x3:=b.cell 3 rfl;have y3:=b.free 3;have x4:=b.cell 4 rfl;have y4:=b.free 4;have x5:=b.cell 5 rfl;have y5:=b.free 5;have x6:=b.cell 6 rfl;have y6:=b.free 6;have x7:=b.cell 7 rfl;have y7:=b.free 7;have x8:=b.cell 8 rfl;have y8:=b.free 8;have x9:=b.cell 9 rfl;have y9:=b.free 9;have ay:=b.cell 10 rfl;have az:=b.free 10;have a0:=b.cell 11 rfl;have a1:=b.free 11;have a2:=b.cell 12 rfl;have a3:=b.free 12;have a4:=b.cell 13 rfl;have a5:=b.free 13;have a6:=b.cell 14 rfl;have a7:=b.free 14;have S:=jp (B.out.step (l.out.step_alloc (.cells #[.int .i64 (A:Int),.int .i64 (f:Int),.int .i64 a.alg,.int .i64 a.slots,.int .i64 a.points,.int .i64 a.probes,.string a.key,.int .i64 a.formats,.slice K n.length L,.slice Q r.length R] 135)));have U:=jp (y.out.alloc (.cells #[.int .i64 (A:Int),.int .i64 (f:Int),.int .i64 a.alg,.int .i64 a.slots,.int .i64 a.points,.int .i64 a.probes,.string a.key,.int .i64 a.formats,.slice K n.length L,.slice Q r.length R] 135));have V:Hid (w.heap.size<=w1.heap.size):=jX (Nat.le_of_lt al.out) F.out.size;have W:=jp (AJ.mono H V.out);have X:=jp (World.ownsRow.mono I (base':=w.heap.size) V.out);clear b D2 t d H I;by_cases Z:f=cg
  .subst Z;by_cases hf:A=cf
   .subst hf;have G:Hid (Bj D=some (A,f,a,n,r)):=hi;clear hi;go_wp2;go_end0;refine ⟨rfl,?_,Or.inl ⟨a,n,r,.slice K n.length L,.slice Q r.length R,by rw [<-x.out];exact G.out,?_,?_,?_⟩⟩
    .refine Ab.alloc ?_ _
     iterate 9 (refine Ab.set ?_ js _)
     exact B.out.step l.out
    .have z0:=y.out;have z1:=z0.set 1 (.int .i64 (f:Int)) (cs':=#[.int .i64 (fm:Int),.int .i64 (f:Int),.int .i64 c.alg,.int .i64 c.slots,.int .i64 c.points,.int .i64 c.probes,.string c.key,.int .i64 c.formats,m,k,.int .i64 0,.int .i64 0,.int .i64 0,.slice none 0 0,.bool i]) rfl;have z2:=z1.set 2 (.int .i64 a.alg) (cs':=#[.int .i64 (fm:Int),.int .i64 (f:Int),.int .i64 a.alg,.int .i64 c.slots,.int .i64 c.points,.int .i64 c.probes,.string c.key,.int .i64 c.formats,m,k,.int .i64 0,.int .i64 0,.int .i64 0,.slice none 0 0,.bool i]) rfl;have z3:=z2.set 3 (.int .i64 a.slots) (cs':=#[.int .i64 (fm:Int),.int .i64 (f:Int),.int .i64 a.alg,.int .i64 a.slots,.int .i64 c.points,.int .i64 c.probes,.string c.key,.int .i64 c.formats,m,k,.int .i64 0,.int .i64 0,.int .i64 0,.slice none 0 0,.bool i]) rfl;have z4:=z3.set 4 (.int .i64 a.points) (cs':=#[.int .i64 (fm:Int),.int .i64 (f:Int),.int .i64 a.alg,.int .i64 a.slots,.int .i64 a.points,.int .i64 c.probes,.string c.key,.int .i64 c.formats,m,k,.int .i64 0,.int .i64 0,.int .i64 0,.slice none 0 0,.bool i]) rfl;have z5:=z4.set 5 (.int .i64 a.probes) (cs':=#[.int .i64 (fm:Int),.int .i64 (f:Int),.int .i64 a.alg,.int .i64 a.slots,.int .i64 a.points,.int .i64 a.probes,.string c.key,.int .i64 c.formats,m,k,.int .i64 0,.int .i64 0,.int .i64 0,.slice none 0 0,.bool i]) rfl;have z6:=z5.set 6 (.string a.key) (cs':=#[.int .i64 (fm:Int),.int .i64 (f:Int),.int .i64 a.alg,.int .i64 a.slots,.int .i64 a.points,.int .i64 a.probes,.string a.key,.int .i64 c.formats,m,k,.int .i64 0,.int .i64 0,.int .i64 0,.slice none 0 0,.bool i]) rfl;have z7:=z6.set 7 (.int .i64 a.formats) (cs':=#[.int .i64 (fm:Int),.int .i64 (f:Int),.int .i64 a.alg,.int .i64 a.slots,.int .i64 a.points,.int .i64 a.probes,.string a.key,.int .i64 a.formats,m,k,.int .i64 0,.int .i64 0,.int .i64 0,.slice none 0 0,.bool i]) rfl;have z8:=z7.set 8 (.slice K n.length L) (cs':=#[.int .i64 (fm:Int),.int .i64 (f:Int),.int .i64 a.alg,.int .i64 a.slots,.int .i64 a.points,.int .i64 a.probes,.string a.key,.int .i64 a.formats,.slice K n.length L,k,.int .i64 0,.int .i64 0,.int .i64 0,.slice none 0 0,.bool i]) rfl;have z9:=z8.set 9 (.slice Q r.length R) (cs':=#[.int .i64 (fm:Int),.int .i64 (f:Int),.int .i64 a.alg,.int .i64 a.slots,.int .i64 a.points,.int .i64 a.probes,.string a.key,.int .i64 a.formats,.slice K n.length L,.slice Q r.length R,.int .i64 0,.int .i64 0,.int .i64 0,.slice none 0 0,.bool i]) rfl;exact Ae.alloc z9 _
    .refine World.ownsRow.alloc ?_ _
     iterate 9 (refine ownsRow_setCell_below ?_ jv _)
     exact W.out
    .refine World.ownsRow.alloc ?_ _
     iterate 9 (refine ownsRow_setCell_below ?_ jv _)
     exact X.out
   .have a8:((A:Int)==(cf:Int))=false:=by rw [jI];omega
    have G:Hid (∀a n r,Bj D≠some (cf,f,a,n,r)):=fun _ _ _ e=>by rw [hi] at e;injection e with e;injection e with e;exact hf e
    clear hi;go_wp2;go_end0;exact ⟨rfl,S.out,Or.inr ⟨by rw [<-x.out];exact G.out,U.out⟩⟩
  .have a9:((f:Int)==(cg:Int))=false:=by rw [jI];omega
   have G:Hid (∀a n r,Bj D≠some (cf,cg,a,n,r)):=fun _ _ _ e=>by rw [hi] at e;injection e with e;injection e with _ e;injection e with e;exact Z e
   clear hi;go_wp2;go_end0;exact ⟨rfl,S.out,Or.inr ⟨by rw [<-x.out];exact G.out,U.out⟩⟩
def AU (cg cf b:Nat) (T:List TP) (a:Bl):Nat×Nat×Nat×List TP:=if cg<a.2.1 then (a.2.1,a.2.2.1,a.2.2.2.1,[]) else (cg,cf,b,T)
def Ea (fm g cg cf b:Nat) (T:List TP) (a:Bl):Prop:=IQ fm g cg a=true/\a.2.2.1=(AU cg cf b T a).2.1/\a.2.2.2.1=(AU cg cf b T a).2.2.1
def Ce (cg cf b:Nat) (T:List TP) (a:Bl):List TP:=Dm (AU cg cf b T a).2.2.2 (a.2.2.2.2.1,a.2.2.2.2.2)
def Jz (w:World) (a b:Value):Prop:=∀k,b.ownBlock=some k->k∈gl a\/w.heap.size<=k
def KR (q fm g:Nat) (c:Ac) (n o:Value) (cg cf b:Nat) (i:Value) (r:Bool) (T:List TP) (a:Bl) (w:World) (e:Ending) (w':World):Prop:=e= .returned (.tuple #[])/\Ab (q::gl i) w w'/\
 ((¬ Ea fm g cg cf b T a /\ Ae q 208 (BD fm g c n o cg cf b i r) w' /\ AN w' i T) \/
  (Ea fm g cg cf b T a /\ (Ce cg cf b T a).length ≠ (AU cg cf b T a).2.2.1 /\ ∃ p, Ae q 208 (BD fm g c n o (AU cg cf b T a).1 (AU cg cf b T a).2.1 (AU cg cf b T a).2.2.1 p false) w' /\ AN w' p (Ce cg cf b T a) /\ Jz w i p) \/
  (Ea fm g cg cf b T a /\ (Ce cg cf b T a).length = (AU cg cf b T a).2.2.1 /\
    ((∃ k l m d f, Bj (Cg (Ce cg cf b T a)) = some ((AU cg cf b T a).2.1, (AU cg cf b T a).1, k, l, m) /\ Ae q 208 (BD fm (AU cg cf b T a).1 k d f 0 0 0 (.slice none 0 0) false) w' /\ AJ w.heap.size w' d l /\ AS w.heap.size w' f m) \/
     ((∀ k l m, Bj (Cg (Ce cg cf b T a)) ≠ some ((AU cg cf b T a).2.1, (AU cg cf b T a).1, k, l, m)) /\ Ae q 208 (BD fm g c n o 0 0 0 (.slice none 0 0) false) w'))))
theorem Nm (T:List TP) (p:TP):(Dm T p).length<=T.length+1:=by
 unfold Dm;split
 .rw [List.length_set];omega
 .simp only [jO,jk,List.length_cons,jh];omega
theorem LE {T:List TP} {p x:TP} (h:x∈Dm T p):x=p\/x∈T:=by
 unfold Dm at h;split at h
 .rcases List.mem_or_eq_of_mem_set h with h|h
  .exact Or.inr h
  .exact Or.inl h
 .rcases jT.1 h with h|h
  .exact Or.inr (List.mem_of_mem_take h)
  .rcases ja.1 h with h|h
   .exact Or.inl h
   .exact Or.inr (List.mem_of_mem_drop h)
theorem VE (q fm g:Nat) (c:Ac) (vP vE:Value) (cg cf cp:Nat) (vT:Value) (nf:Bool) (T:List TP) (a:Bl) (w:World) (h:Ae q 208 (BD fm g c vP vE cg cf cp vT nf) w) (hT:AN w vT T) (hl:T.length<=65535) (hs:∀p∈T,p.2.length<=65536) (hab:a.2.2.2.2.2.length<=65536) (hf:a.2.2.1<256) (hfm:fm<256):
  Calls Tryz.prog 175 #[.pointer (some ⟨q,0,none⟩),.agg (GZ a)] w (KR q fm g c vP vE cg cf cp vT nf T a w):=by
 have hwa:=fun wx hx=>VP q fm g c vP vE cg cf cp vT nf a wx hx hf hfm
 have HU:Hid (Ea fm g cg cf cp T a↔IQ fm g cg a=true/\a.2.2.1=(AU cg cf cp T a).2.1/\a.2.2.2.1=(AU cg cf cp T a).2.2.1):=Iff.rfl;have HC1:Hid (AU cg cf cp T a=if cg<a.2.1 then (a.2.1,a.2.2.1,a.2.2.2.1,[]) else (cg,cf,cp,T)):=rfl;have HNT:Hid (Ce cg cf cp T a=Dm (AU cg cf cp T a).2.2.2 (a.2.2.2.2.1,a.2.2.2.2.2)):=rfl;generalize IQ fm g cg a=wt at *
 have hqT:vT.ownBlock≠some q:=fun e=>by
  rcases hT.2 with ⟨g1,_⟩|⟨g',cap',cur,g1,_,g2,_⟩
  .rw [g1] at e;cases e
  .rw [g1] at e;have hg:g'=q:=by simpa [Value.ownBlock] using e
   subst hg;rw [Ae,g2] at h;injection h with h
   injection h with _ h
   revert h;decide
 have hvl:Hid (∀k,vT.ownBlock=some k->k<w.heap.size):=fun k hk=>(World.ownsRow.lt hT k hk).2
 obtain ⟨k,ag,af,ap,an,ab⟩:=a;unfold GZ at *;simp only at *;unfold BD at h hwa;obtain ⟨W0,hW0⟩:∃W0,W0=w.alloc (.cells #[.int .i64 (k:Int),.int .i64 (ag:Int),.int .i64 (af:Int),.int .i64 (ap:Int),.int .i64 (an:Int),.string (Ai ab)] 109):=⟨_,rfl⟩;have hb0:Aa w W0:=by rw [hW0];exact (jD w).step_alloc _
 have HA0:Hid (Ae w.heap.size 109 #[.int .i64 (k:Int),.int .i64 (ag:Int),.int .i64 (af:Int),.int .i64 (ap:Int),.int .i64 (an:Int),.string (Ai ab)] W0):=by show Ae _ _ _ W0;rw [hW0];exact Ae.new _ _ _
 have HX0:=jp (h.bel hb0);have HT0:=jp (hT.later hb0);have HB0:=jp hb0;have hql:=h.lt;have hs0:Hid (W0.heap.size=w.heap.size+1):=by show _=_;rw [hW0];simp
 have HQT:=jp hqT;clear h hT hb0 hqT;go_enter Tryz.func175,Tryz.ntmps175;go_wp2_with fail;rw [<-hW0];clear hW0;refine (hwa _ HX0.out).mono ?_;rintro e w1 ⟨rfl,hb1⟩;have HX1:=jp (HX0.out.bel hb1);have HT1:=jp (HT0.out.later hb1);have HA1:=jp (HA0.out.bel hb1);have HB1:=jp (HB0.out.trans hb1);have hql1:q<w1.heap.size:=HX1.out.lt;have hal1:w.heap.size<w1.heap.size:=HA1.out.lt;clear hb1 hwa HX0 HT0 HA0 HB0;cases wt
 .have HN:Hid (¬Ea fm g cg cf cp T (k,ag,af,ap,an,ab)):=fun h=>by have:=(HU.out.1 h).1;cases this
  go_wp2;go_end0;exact ⟨rfl,Ab.of_bel HB1.out,Or.inl ⟨HN.out,HX1.out,HT1.out⟩⟩
 have X1:=HX1.out;have A1:=HA1.out;have c0:=X1.cell 0 rfl;have f0:=X1.free 0;have c1:=X1.cell 1 rfl;have f1:=X1.free 1;have c2:=X1.cell 2 rfl;have f2:=X1.free 2;have c3:=X1.cell 3 rfl;have f3:=X1.free 3;have c4:=X1.cell 4 rfl;have f4:=X1.free 4;have c5:=X1.cell 5 rfl;have f5:=X1.free 5;have c6:=X1.cell 6 rfl;have f6:=X1.free 6;have c7:=X1.cell 7 rfl;have f7:=X1.free 7;have c8:=X1.cell 8 rfl;have f8:=X1.free 8;have c9:=X1.cell 9 rfl;have f9:=X1.free 9;have c10:=X1.cell 10 rfl;have f10:=X1.free 10;have c11:=X1.cell 11 rfl;have f11:=X1.free 11;have c12:=X1.cell 12 rfl;have f12:=X1.free 12;have c13:=X1.cell 13 rfl;have f13:=X1.free 13;have c14:=X1.cell 14 rfl;have f14:=X1.free 14;have a0:=A1.cell 0 rfl;have a1:=A1.cell 1 rfl;have a2:=A1.cell 2 rfl;have a3:=A1.cell 3 rfl;have a4:=A1.cell 4 rfl;have a5:=A1.cell 5 rfl;clear X1 A1;by_cases hgt:cg<ag
 .rw [if_pos hgt] at HC1;have hd1:decide ((cg:Int)<(ag:Int))=true:=jL jo;have hdf:(((af:Int)) !=(af:Int))=false:=js
  have hdp:(((ap:Int)) !=(ap:Int))=false:=js
  have HUS:Hid (Ea fm g cg cf cp T (k,ag,af,ap,an,ab)):=HU.out.2 ⟨js,by rw [HC1.out],by rw [HC1.out]⟩;go_wp2_with fail;go_quiet (fail);go_wp2_with fail;obtain ⟨W2,hW2⟩:∃W2,W2=((((w1.drewN nq).setCell ⟨q,10,none⟩ (.int .i64 (ag:Int))).setCell ⟨q,11,none⟩ (.int .i64 (af:Int))).setCell ⟨q,12,none⟩ (.int .i64 (ap:Int))).setCell ⟨q,13,none⟩ (.slice none 0 0):=⟨_,rfl⟩;have HX2:Hid (Ae q 208 #[.int .i64 (fm:Int),.int .i64 (g:Int),.int .i64 c.alg,.int .i64 c.slots,.int .i64 c.points,.int .i64 c.probes,.string c.key,.int .i64 c.formats,vP,vE,.int .i64 (ag:Int),.int .i64 (af:Int),.int .i64 (ap:Int),.slice none 0 0,.bool nf] W2):=by show Ae _ _ _ W2;rw [hW2];exact ((((HX1.out.bel ((jD _).step_drewN _)).set 10 (.int .i64 (ag:Int)) (cs':=#[.int .i64 (fm:Int),.int .i64 (g:Int),.int .i64 c.alg,.int .i64 c.slots,.int .i64 c.points,.int .i64 c.probes,.string c.key,.int .i64 c.formats,vP,vE,.int .i64 (ag:Int),.int .i64 (cf:Int),.int .i64 (cp:Int),vT,.bool nf]) rfl).set 11 (.int .i64 (af:Int)) (cs':=#[.int .i64 (fm:Int),.int .i64 (g:Int),.int .i64 c.alg,.int .i64 c.slots,.int .i64 c.points,.int .i64 c.probes,.string c.key,.int .i64 c.formats,vP,vE,.int .i64 (ag:Int),.int .i64 (af:Int),.int .i64 (cp:Int),vT,.bool nf]) rfl).set 12 (.int .i64 (ap:Int)) (cs':=#[.int .i64 (fm:Int),.int .i64 (g:Int),.int .i64 c.alg,.int .i64 c.slots,.int .i64 c.points,.int .i64 c.probes,.string c.key,.int .i64 c.formats,vP,vE,.int .i64 (ag:Int),.int .i64 (af:Int),.int .i64 (ap:Int),vT,.bool nf]) rfl).set 13 (.slice none 0 0) (cs':=#[.int .i64 (fm:Int),.int .i64 (g:Int),.int .i64 c.alg,.int .i64 c.slots,.int .i64 c.points,.int .i64 c.probes,.string c.key,.int .i64 c.formats,vP,vE,.int .i64 (ag:Int),.int .i64 (af:Int),.int .i64 (ap:Int),.slice none 0 0,.bool nf]) rfl
  have HA2:Hid (Ae w.heap.size 109 #[.int .i64 (k:Int),.int .i64 (ag:Int),.int .i64 (af:Int),.int .i64 (ap:Int),.int .i64 (an:Int),.string (Ai ab)] W2):=by show Ae _ _ _ W2;rw [hW2];exact ((((HA1.out.bel ((jD _).step_drewN _)).setO jv _).setO jv _).setO jv _).setO jv _
  have HB2:Hid (Ab (q::gl vT) w W2):=by show Ab _ _ _;rw [hW2];exact (((((Ab.of_bel (M:=q::gl vT) HB1.out).drewN _).set js _).set js _).set js _).set js _
  have HT2:Hid (AN W2 (.slice none 0 0) []):=World.ownsRow_nil _ _ _ _;have hs2:Hid (w.heap.size<=W2.heap.size):=HB2.out.size;rw [<-hW2];clear hW2 c0 c1 c2 c3 c4 c5 c6 c7 c8 c9 c10 c11 c12 c13 c14 f0 f1 f2 f3 f4 f5 f6 f7 f8 f9 f10 f11 f12 f13 f14 a0 a1 a2 a3 a4 a5 HX1 HT1 HA1 HB1 hal1 hql1;have X2:=HX2.out;have A2:=HA2.out;have hql2:q<W2.heap.size:=X2.lt;have hal2:w.heap.size<W2.heap.size:=A2.lt;have c11:=X2.cell 11 rfl;have c12:=X2.cell 12 rfl;have c14:=X2.cell 14 rfl;have f14:=X2.free 14;have a2:=A2.cell 2 rfl;have a3:=A2.cell 3 rfl;clear X2 A2;go_quiet (fail);go_wp2_with fail;obtain ⟨W3,hW3⟩:∃W3,W3=(W2.drewN nq).setCell ⟨q,14,none⟩ (.bool false):=⟨_,rfl⟩;have HX3:Hid (Ae q 208 #[.int .i64 (fm:Int),.int .i64 (g:Int),.int .i64 c.alg,.int .i64 c.slots,.int .i64 c.points,.int .i64 c.probes,.string c.key,.int .i64 c.formats,vP,vE,.int .i64 (ag:Int),.int .i64 (af:Int),.int .i64 (ap:Int),.slice none 0 0,.bool false] W3):=by show Ae _ _ _ W3;rw [hW3];exact (HX2.out.bel ((jD _).step_drewN _)).set 14 (.bool false) rfl
  have HA3:Hid (Ae w.heap.size 109 #[.int .i64 (k:Int),.int .i64 (ag:Int),.int .i64 (af:Int),.int .i64 (ap:Int),.int .i64 (an:Int),.string (Ai ab)] W3):=by show Ae _ _ _ W3;rw [hW3];exact (HA2.out.bel ((jD _).step_drewN _)).setO jv _
  have HB3:Hid (Ab (q::gl vT) w W3):=by show Ab _ _ _;rw [hW3];exact (HB2.out.drewN _).set js _
  have HT3:Hid (AN W3 (.slice none 0 0) []):=by
   show AN _ _ _;rw [hW3];exact ownsRow_setCell_other (HT2.out.later ((jD _).step_drewN _)) (by simp [Value.ownBlock]) _
  have hs3:Hid (w.heap.size<=W3.heap.size):=HB3.out.size;rw [<-hW3];clear hW3 c11 c12 c14 f14 a2 a3 HX2 HT2 HA2 HB2 hs2 hql2 hal2;have A3:=HA3.out;have a4:=A3.cell 4 rfl;have a5:=A3.cell 5 rfl;have H6:=fun wx (hx:Aa W3 wx)=>N3 q 208 _ [] an ab (.slice none 0 0) wx (HX3.out.bel hx) rfl (HT3.out.later hx) js ji
  clear A3;go_region_with (go_at_call 196;refine Calls.mono (H6 _ (by first|exact jD _|exact jB (jD _))) ?_;rintro e w4 ⟨v',rfl,hQ4,hT4,hB4x,hown4⟩;have hB4:Ab (q::gl (.slice none 0 0)) W3 w4:=(by first|exact hB4x|exact (Ab.of_bel ((jD W3).step_drew)).trans hB4x);have hO4:v'.ownBlock=Value.ownBlock (.slice none 0 0)\/∃g,v'.ownBlock=some g/\w.heap.size<=g:=(by rcases hown4 with h|⟨g,h1,h2⟩;exact Or.inl h;exact Or.inr ⟨g,h1,jX hs3.out (by first|exact h2|simpa using h2)⟩);clear hB4x hown4)
  all_goals
   have HX4:Hid (Ae q 208 #[.int .i64 (fm:Int),.int .i64 (g:Int),.int .i64 c.alg,.int .i64 c.slots,.int .i64 c.points,.int .i64 c.probes,.string c.key,.int .i64 c.formats,vP,vE,.int .i64 (ag:Int),.int .i64 (af:Int),.int .i64 (ap:Int),v',.bool false] w4):=hQ4;have HB4:Hid (Ab (q::gl vT) w w4):=HB3.out.trans (hB4.mono (fun k hk=>by simp [gl,Value.ownBlock] at hk;subst hk;simp))
   have HR4:Hid (Jz w vT v'):=fun k hk=>by
    rcases hO4 with e|⟨g4,e1,e2⟩
    .rw [e] at hk;cases hk
    .rw [e1] at hk;injection hk with hk
     exact Or.inr jo
   have HNE:Hid (Ce cg cf cp T (k,ag,af,ap,an,ab)=Dm [] (an,ab)):=by show _=_;rw [HNT.out,HC1.out]
   have hlT:=Nm [] (an,ab)
   have hsT:∀p∈Dm [] (an,ab),p.2.length<=65536:=fun p hp=>by
    rcases LE hp with h|h
    .rw [h];exact hab
    .cases h
   obtain ⟨T',hT'⟩:∃T',T'=Dm [] (an,ab):=⟨_,rfl⟩;rw [<-hT'] at hT4 HNE hlT hsT;have HT4:=jp hT4;have hlT2:T'.length<=65536:=by simp at hlT;omega
   have H7:=jp (O0 q ap v' T' w4 (HX4.out.cell 12 rfl) (HX4.out.cell 13 rfl) hT4);have HST:=jp hsT;clear hQ4 hT4 hB4 hO4 hT' H6 HX3 HA3 HB3 HT3 a4 a5 hlT hsT;go_wp2_with fail;refine H7.out.mono ?_;rintro e w5 ⟨rfl,hb5⟩;have HX5:=jp (HX4.out.bel hb5);have HT5:=jp (HT4.out.later hb5);have HB5:=jp (HB4.out.step hb5);clear hb5 H7 HX4 HT4 HB4;cases hwh:((T'.length:Int)==(ap:Int))
   .have HW:Hid ((Ce cg cf cp T (k,ag,af,ap,an,ab)).length≠(AU cg cf cp T (k,ag,af,ap,an,ab)).2.2.1):=by
     show _≠_;rw [HNE.out,HC1.out];intro e;rw [e] at hwh;simp at hwh
    have HF:Hid (∃v',Ae q 208 (BD fm g c vP vE (AU cg cf cp T (k,ag,af,ap,an,ab)).1 (AU cg cf cp T (k,ag,af,ap,an,ab)).2.1 (AU cg cf cp T (k,ag,af,ap,an,ab)).2.2.1 v' false) w5/\AN w5 v' (Ce cg cf cp T (k,ag,af,ap,an,ab))/\Jz w vT v'):=by
     show ∃_,_;rw [HNE.out,HC1.out];exact ⟨v',HX5.out,HT5.out,HR4.out⟩
    clear HX5 HT5 HR4 HST
    go_wp2
    go_end0
    exact ⟨rfl,HB5.out,Or.inr (Or.inl ⟨HUS.out,HW.out,HF.out⟩)⟩
   .have HW:Hid ((Ce cg cf cp T (k,ag,af,ap,an,ab)).length=(AU cg cf cp T (k,ag,af,ap,an,ab)).2.2.1):=by
     show _=_;rw [HNE.out,HC1.out];have:=beq_iff_eq.1 hwh;simp only;omega
    have H8:=jp (NW q fm g c vP vE ag af ap v' false T' w5 HX5.out HT5.out hlT2 HST.out)
    have hs5:Hid (w.heap.size<=w5.heap.size):=HB5.out.size
    clear HX5 HT5 HR4 HST
    go_wp2_with fail
    refine H8.out.mono ?_
    rintro e w6 ⟨rfl,hB6,hres⟩
    have HB6:=jp (HB5.out.trans (hB6.mono (M':=q::gl vT) (fun k hk=>Or.inl (by simp at hk;subst hk;simp))))
    have HRES:=jp hres
    clear hB6 hres H8
    go_wp2
    go_end0
    refine ⟨rfl,HB6.out,Or.inr (Or.inr ⟨HUS.out,HW.out,?_⟩)⟩
    rw [HNE.out,HC1.out]
    rcases HRES.out with ⟨c2,B2,E2,vP2,vE2,r1,r2,r3,r4⟩|r
    .exact Or.inl ⟨c2,B2,E2,vP2,vE2,r1,r2,AJ.mono r3 hs5.out,World.ownsRow.mono r4 (base':=w.heap.size) hs5.out⟩
    .exact Or.inr r
 .rw [if_neg hgt] at HC1;have hd1:decide ((cg:Int)<(ag:Int))=false:=jK jo;by_cases hfe:af=cf/\ap=cp
  .obtain ⟨rfl,rfl⟩:=hfe;have hdf:(((af:Int)) !=(af:Int))=false:=js
   have hdp:(((ap:Int)) !=(ap:Int))=false:=js
   have HUS:Hid (Ea fm g cg af ap T (k,ag,af,ap,an,ab)):=HU.out.2 ⟨js,by rw [HC1.out],by rw [HC1.out]⟩;go_wp2_with fail;go_quiet (fail);go_wp2_with fail;obtain ⟨W2,hW2⟩:∃W2,W2=w1.drewN nq:=⟨_,rfl⟩;have HX2:Hid (Ae q 208 #[.int .i64 (fm:Int),.int .i64 (g:Int),.int .i64 c.alg,.int .i64 c.slots,.int .i64 c.points,.int .i64 c.probes,.string c.key,.int .i64 c.formats,vP,vE,.int .i64 (cg:Int),.int .i64 (af:Int),.int .i64 (ap:Int),vT,.bool nf] W2):=by show Ae _ _ _ W2;rw [hW2];exact HX1.out.bel ((jD _).step_drewN _)
   have HA2:Hid (Ae w.heap.size 109 #[.int .i64 (k:Int),.int .i64 (ag:Int),.int .i64 (af:Int),.int .i64 (ap:Int),.int .i64 (an:Int),.string (Ai ab)] W2):=by show Ae _ _ _ W2;rw [hW2];exact HA1.out.bel ((jD _).step_drewN _)
   have HB2:Hid (Ab (q::gl vT) w W2):=by show Ab _ _ _;rw [hW2];exact (Ab.of_bel (M:=q::gl vT) HB1.out).drewN _
   have HT2:Hid (AN W2 vT T):=by show AN _ _ _;rw [hW2];exact HT1.out.later ((jD _).step_drewN _)
   have hs2:Hid (w.heap.size<=W2.heap.size):=HB2.out.size;rw [<-hW2];clear hW2 c0 c1 c2 c3 c4 c5 c6 c7 c8 c9 c10 c11 c12 c13 c14 f0 f1 f2 f3 f4 f5 f6 f7 f8 f9 f10 f11 f12 f13 f14 a0 a1 a2 a3 a4 a5 HX1 HT1 HA1 HB1 hal1 hql1;have X2:=HX2.out;have A2:=HA2.out;have hql2:q<W2.heap.size:=X2.lt;have hal2:w.heap.size<W2.heap.size:=A2.lt;have c11:=X2.cell 11 rfl;have c12:=X2.cell 12 rfl;have c14:=X2.cell 14 rfl;have f14:=X2.free 14;have a2:=A2.cell 2 rfl;have a3:=A2.cell 3 rfl;clear X2 A2;go_quiet (fail);go_wp2_with fail;obtain ⟨W3,hW3⟩:∃W3,W3=(W2.drewN nq).setCell ⟨q,14,none⟩ (.bool false):=⟨_,rfl⟩;have HX3:Hid (Ae q 208 #[.int .i64 (fm:Int),.int .i64 (g:Int),.int .i64 c.alg,.int .i64 c.slots,.int .i64 c.points,.int .i64 c.probes,.string c.key,.int .i64 c.formats,vP,vE,.int .i64 (cg:Int),.int .i64 (af:Int),.int .i64 (ap:Int),vT,.bool false] W3):=by show Ae _ _ _ W3;rw [hW3];exact (HX2.out.bel ((jD _).step_drewN _)).set 14 (.bool false) rfl
   have HA3:Hid (Ae w.heap.size 109 #[.int .i64 (k:Int),.int .i64 (ag:Int),.int .i64 (af:Int),.int .i64 (ap:Int),.int .i64 (an:Int),.string (Ai ab)] W3):=by show Ae _ _ _ W3;rw [hW3];exact (HA2.out.bel ((jD _).step_drewN _)).setO jv _
   have HB3:Hid (Ab (q::gl vT) w W3):=by show Ab _ _ _;rw [hW3];exact (HB2.out.drewN _).set js _
   have HT3:Hid (AN W3 vT T):=by
    show AN _ _ _;rw [hW3];exact ownsRow_setCell_other (HT2.out.later ((jD _).step_drewN _)) HQT.out _
   have hs3:Hid (w.heap.size<=W3.heap.size):=HB3.out.size;rw [<-hW3];clear hW3 c11 c12 c14 f14 a2 a3 HX2 HT2 HA2 HB2 hs2 hql2 hal2;have A3:=HA3.out;have a4:=A3.cell 4 rfl;have a5:=A3.cell 5 rfl;have H6:=fun wx (hx:Aa W3 wx)=>N3 q 208 _ T an ab vT wx (HX3.out.bel hx) rfl (HT3.out.later hx) jo ji
   clear A3;go_region_with (go_at_call 196;refine Calls.mono (H6 _ (by first|exact jD _|exact jB (jD _))) ?_;rintro e w4 ⟨v',rfl,hQ4,hT4,hB4x,hown4⟩;have hB4:Ab (q::gl vT) W3 w4:=(by first|exact hB4x|exact (Ab.of_bel ((jD W3).step_drew)).trans hB4x);have hO4:v'.ownBlock=Value.ownBlock vT\/∃g,v'.ownBlock=some g/\w.heap.size<=g:=(by rcases hown4 with h|⟨g,h1,h2⟩;exact Or.inl h;exact Or.inr ⟨g,h1,jX hs3.out (by first|exact h2|simpa using h2)⟩);clear hB4x hown4)
   all_goals
    have HX4:Hid (Ae q 208 #[.int .i64 (fm:Int),.int .i64 (g:Int),.int .i64 c.alg,.int .i64 c.slots,.int .i64 c.points,.int .i64 c.probes,.string c.key,.int .i64 c.formats,vP,vE,.int .i64 (cg:Int),.int .i64 (af:Int),.int .i64 (ap:Int),v',.bool false] w4):=hQ4;have HB4:Hid (Ab (q::gl vT) w w4):=HB3.out.trans (hB4.mono (fun k hk=>Or.inl hk))
    have HR4:Hid (Jz w vT v'):=fun k hk=>by
     rcases hO4 with e|⟨g4,e1,e2⟩
     .exact Or.inl (by unfold gl;rw [<-e,hk];simp)
     .rw [e1] at hk;injection hk with hk
      exact Or.inr jo
    have HNE:Hid (Ce cg af ap T (k,ag,af,ap,an,ab)=Dm T (an,ab)):=by show _=_;rw [HNT.out,HC1.out]
    have hlT:=Nm T (an,ab)
    have hsT:∀p∈Dm T (an,ab),p.2.length<=65536:=fun p hp=>by
     rcases LE hp with h|h
     .rw [h];exact hab
     .exact hs p h
    obtain ⟨T',hT'⟩:∃T',T'=Dm T (an,ab):=⟨_,rfl⟩;rw [<-hT'] at hT4 HNE hlT hsT;have HT4:=jp hT4;have hlT2:T'.length<=65536:=jo
    have H7:=jp (O0 q ap v' T' w4 (HX4.out.cell 12 rfl) (HX4.out.cell 13 rfl) hT4);have HST:=jp hsT;clear hQ4 hT4 hB4 hO4 hT' H6 HX3 HA3 HB3 HT3 a4 a5 hlT hsT;go_wp2_with fail;refine H7.out.mono ?_;rintro e w5 ⟨rfl,hb5⟩;have HX5:=jp (HX4.out.bel hb5);have HT5:=jp (HT4.out.later hb5);have HB5:=jp (HB4.out.step hb5);clear hb5 H7 HX4 HT4 HB4;cases hwh:((T'.length:Int)==(ap:Int))
    .have HW:Hid ((Ce cg af ap T (k,ag,af,ap,an,ab)).length≠(AU cg af ap T (k,ag,af,ap,an,ab)).2.2.1):=by
      show _≠_;rw [HNE.out,HC1.out];intro e;rw [e] at hwh;simp at hwh
     have HF:Hid (∃v',Ae q 208 (BD fm g c vP vE (AU cg af ap T (k,ag,af,ap,an,ab)).1 (AU cg af ap T (k,ag,af,ap,an,ab)).2.1 (AU cg af ap T (k,ag,af,ap,an,ab)).2.2.1 v' false) w5/\AN w5 v' (Ce cg af ap T (k,ag,af,ap,an,ab))/\Jz w vT v'):=by
      show ∃_,_;rw [HNE.out,HC1.out];exact ⟨v',HX5.out,HT5.out,HR4.out⟩
     clear HX5 HT5 HR4 HST
     go_wp2
     go_end0
     exact ⟨rfl,HB5.out,Or.inr (Or.inl ⟨HUS.out,HW.out,HF.out⟩)⟩
    .have HW:Hid ((Ce cg af ap T (k,ag,af,ap,an,ab)).length=(AU cg af ap T (k,ag,af,ap,an,ab)).2.2.1):=by
      show _=_;rw [HNE.out,HC1.out];have:=beq_iff_eq.1 hwh;simp only;omega
     have H8:=jp (NW q fm g c vP vE cg af ap v' false T' w5 HX5.out HT5.out hlT2 HST.out)
     have hs5:Hid (w.heap.size<=w5.heap.size):=HB5.out.size
     clear HX5 HT5 HR4 HST
     go_wp2_with fail
     refine H8.out.mono ?_
     rintro e w6 ⟨rfl,hB6,hres⟩
     have HB6:=jp (HB5.out.trans (hB6.mono (M':=q::gl vT) (fun k hk=>Or.inl (by simp at hk;subst hk;simp))))
     have HRES:=jp hres
     clear hB6 hres H8
     go_wp2
     go_end0
     refine ⟨rfl,HB6.out,Or.inr (Or.inr ⟨HUS.out,HW.out,?_⟩)⟩
     rw [HNE.out,HC1.out]
     rcases HRES.out with ⟨c2,B2,E2,vP2,vE2,r1,r2,r3,r4⟩|r
     .exact Or.inl ⟨c2,B2,E2,vP2,vE2,r1,r2,AJ.mono r3 hs5.out,World.ownsRow.mono r4 (base':=w.heap.size) hs5.out⟩
     .exact Or.inr r
  .have HN:Hid (¬Ea fm g cg cf cp T (k,ag,af,ap,an,ab)):=fun h=>by
    have h2:=(HU.out.1 h).2;rw [HC1.out] at h2;exact hfe h2
   by_cases hfc:af=cf
   .have hdf:(((af:Int)) !=(cf:Int))=false:=by rw [hfc];simp
    have hdp:(((ap:Int)) !=(cp:Int))=true:=by rw [bne_iff_ne];omega
    go_wp2_with fail
    go_quiet (fail)
    go_wp2_with fail
    go_quiet (fail)
    go_wp2
    go_end0
    exact ⟨rfl,(((Ab.of_bel HB1.out).drewN _).drewN _),Or.inl ⟨HN.out,HX1.out.bel (((jD _).step_drewN _).step_drewN _),HT1.out.later (((jD _).step_drewN _).step_drewN _)⟩⟩
   .have hdf:(((af:Int)) !=(cf:Int))=true:=by rw [bne_iff_ne];omega
    go_wp2_with fail
    go_quiet (fail)
    go_wp2_with fail
    go_quiet (fail)
    go_wp2
    go_end0
    exact ⟨rfl,(((Ab.of_bel HB1.out).drewN _).drewN _),Or.inl ⟨HN.out,HX1.out.bel (((jD _).step_drewN _).step_drewN _),HT1.out.later (((jD _).step_drewN _).step_drewN _)⟩⟩
def My (q fm g:Nat) (c:Ac) (d f:Value) (cg cf i:Nat) (b:Value) (l:Bool) (T:List TP) (a:Bl) (w:World) (e:Ending) (w':World):Prop:=e= .returned (.tuple #[])/\Ab (q::gl b) w w'/\
 ((a.1≠1/\Ae q 208 (BD fm g c d f cg cf i b (a.1==2)) w'/\AN w' b T)\/(a.1=1/\∃k,Aa w k/\KR q fm g c d f cg cf i b l T a k (.returned (.tuple #[])) w'))
theorem WQ (q fm g:Nat) (c:Ac) (s t:Value) (cg cf u:Nat) (b:Value) (v:Bool) (T:List TP) (a:Bl) (w:World) (h:Ae q 208 (BD fm g c s t cg cf u b v) w) (f:AN w b T) (B:T.length<=65535) (C:∀p∈T,p.2.length<=65536) (i:a.2.2.2.2.2.length<=65536) (D:a.2.2.1<256) (l:fm<256) (F:a.1=0\/a.1=1\/a.1=2):
  Calls Tryz.prog 135 #[.pointer (some ⟨q,0,none⟩),.agg (GZ a)] w (My q fm g c s t cg cf u b v T a w):=by
 have x:=fun G H f=>VE q fm g c s t cg cf u b v T a G H f B C i D l
 have m:b.ownBlock≠some q:=fun e=>by
  rcases f.2 with ⟨y,_⟩|⟨I,E,J,y,_,K,_⟩
  .rw [y] at e;cases e
  .rw [y] at e;have L:I=q:=by simpa [Value.ownBlock] using e
   subst L;rw [Ae,K] at h;injection h with h
   injection h with _ h
   revert h;decide
 have n:=jp h;have o:=jp f;have d:=jp m;have N:=h.lt;have O:q≠w.heap.size:=jo
 unfold BD at h;have P:=h.cell 14 rfl;have Q:=h.free 14;obtain ⟨k,S,U,V,W,X⟩:=a;unfold GZ at *;simp only at *;clear h f m B C i D l;rcases F with rfl|rfl|rfl
 .go_enter Tryz.func135,Tryz.ntmps135;go_wp2;go_end0;refine ⟨rfl,?_,Or.inl ⟨js,?_,?_⟩⟩
  .first
   |exact ((Ab.refl (q::gl b) w).set js _).alloc _
   |exact ((Ab.refl (q::gl b) w).alloc _).set js _
  .first
   |exact Ae.alloc (n.out.set 14 (.bool false) rfl) _
   |exact (n.out.alloc _).set 14 (.bool false) rfl
  .first
   |exact World.ownsRow.alloc (ownsRow_setCell_other o.out d.out _) _
   |exact ownsRow_setCell_other (World.ownsRow.alloc o.out _) d.out _
 .go_enter Tryz.func135,Tryz.ntmps135;go_wp2_with fail;refine (x _ (n.out.bel ((jD w).step_alloc _)) (o.out.later ((jD w).step_alloc _))).mono ?_;rintro e Y z;obtain ⟨rfl,r, -⟩:=id z;have R:=jp z;have A:=jp ((Ab.of_bel (M:=q::gl b) ((jD w).step_alloc _)).trans r);clear z r;go_wp2;go_end0;exact ⟨rfl,A.out,Or.inr ⟨rfl,_,(jD w).step_alloc _,R.out⟩⟩
 .go_enter Tryz.func135,Tryz.ntmps135;go_wp2;go_end0;refine ⟨rfl,?_,Or.inl ⟨js,?_,?_⟩⟩
  .first
   |exact ((Ab.refl (q::gl b) w).set js _).alloc _
   |exact ((Ab.refl (q::gl b) w).alloc _).set js _
  .first
   |exact Ae.alloc (n.out.set 14 (.bool true) rfl) _
   |exact (n.out.alloc _).set 14 (.bool true) rfl
  .first
   |exact World.ownsRow.alloc (ownsRow_setCell_other o.out d.out _) _
   |exact ownsRow_setCell_other (World.ownsRow.alloc o.out _) d.out _
def AZ (w:World) (r j:Nat):Value:=(w.cell? ⟨r,j,none⟩).getD (.bool false)
theorem Oe {w:World} {r j:Nat} {u:Value} (h:w.cell? ⟨r,j,none⟩=some u):w.cell? ⟨r,j,none⟩=some (AZ w r j):=by rw [AZ,h];rfl
def RQ (w:World) (v:Value) (e:Ending) (w':World):Prop:=e= .returned v/\Aa w w'
theorem five {w:World} {r:Nat} {b:TypeId} {a:Array Value} (h:Ae r b a w) (c:a.size=5) (j:Nat) (d:j<5):w.cell? ⟨r,j,none⟩=some (AZ w r j):=by
 have:a[j]?=some a[j]:=Array.getElem?_eq_getElem jo;exact Oe (h.cell j this)
end Go.Proofs.YtpapdkhjdelfcaaGreat
