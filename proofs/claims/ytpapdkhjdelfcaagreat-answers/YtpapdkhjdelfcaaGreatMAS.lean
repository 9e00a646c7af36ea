import Derived.Test.YtpapdkhjdelfcaaGreatMAR
namespace Go.Proofs.YtpapdkhjdelfcaaGreat
open Go.RowKit
set_option maxRecDepth 100000
set_option maxHeartbeats 4000000
def Ss (q fm g:Nat) (c:Ac) (l m:ju) (cg cf:Nat) (T:List TP) (k:Bool) (w:jj) (e:Ending) (w':jj):Prop:=e= .returned (.tuple #[])/\Ab [q] w w'/\
 ((∃ d f i a b, Bj (Cg T) = some (cf, cg, d, f, i) /\ Ae q 208 (BD fm cg d a b 0 0 0 (.slice none 0 0) k) w' /\ AJ w.heap.size w' a f /\ AS w.heap.size w' b i) \/
  ((∀ d f i, Bj (Cg T) ≠ some (cf, cg, d, f, i)) /\ Ae q 208 (BD fm g c l m 0 0 0 (.slice none 0 0) k) w'))
theorem NW (q fm g:Nat) (c:Ac) (m k:ju) (cg cf J:Nat) (vT:ju) (i:Bool) (T:List TP) (w:jj) (h:Ae q 208 (BD fm g c m k cg cf J vT i) w) (Y:AN w vT T) (hl:T.length<=65536) (hs:∀p∈T,p.2.length<=65536):
  Calls Tryz.prog 198 #[.pointer (some ⟨q,0,none⟩)] w (Ss q fm g c m k cg cf T i w):=by
 unfold BD at h;obtain ⟨z,cap,rfl⟩:=B8 Y;have aq:=h.lt;have HX:=jp h;have c0:=h.cell 0 rfl;have f0:=h.free 0;have c1:=h.cell 1 rfl;have f1:=h.free 1;have a:=h.cell 2 rfl;have A:=h.free 2;have c3:=h.cell 3 rfl;have f3:=h.free 3;have c4:=h.cell 4 rfl;have f4:=h.free 4;have c5:=h.cell 5 rfl;have f5:=h.free 5;have c6:=h.cell 6 rfl;have f6:=h.free 6;have c7:=h.cell 7 rfl;have f7:=h.free 7;have c8:=h.cell 8 rfl;have f8:=h.free 8;have c9:=h.cell 9 rfl;have f9:=h.free 9;have aa:=h.cell 10 rfl;have ab:=h.free 10;have ac:=h.cell 11 rfl;have ad:=h.free 11;have ae:=h.cell 12 rfl;have af:=h.free 12;have ag:=h.cell 13 rfl;have ah:=h.free 13;have ai:=h.cell 14 rfl;have aj:=h.free 14
 have s:(Value.slice z T.length cap).ownBlock≠some q:=fun e=>by
  rcases Y.2 with ⟨g1,_⟩|⟨g',an,ar,g1,_,f,_⟩
  .rw [g1] at e;cases e
  .rw [g1] at e;have Z:g'=q:=by simpa [Value.ownBlock] using e
   subst Z;rw [Ae,f] at h;injection h with h
   injection h with _ h
   revert h;decide
 obtain ⟨u,o⟩:∃u,u=(((((w.setCell ⟨q,10,none⟩ (.int .i64 0)).setCell ⟨q,11,none⟩ (.int .i64 0)).setCell ⟨q,12,none⟩ (.int .i64 0)).setCell ⟨q,13,none⟩ (.slice none 0 0)).alloc (.cells #[.int .i64 (cg:Int),.int .i64 (cf:Int),.int .i64 (J:Int),.slice z T.length cap] 206)):=⟨_,rfl⟩;have M:Hid (Ae q 208 #[.int .i64 (fm:Int),.int .i64 (g:Int),.int .i64 c.alg,.int .i64 c.slots,.int .i64 c.points,.int .i64 c.probes,.string c.key,.int .i64 c.formats,m,k,.int .i64 0,.int .i64 0,.int .i64 0,.slice none 0 0,.bool i] u):=by show Ae _ _ _ u;rw [o];exact Ae.alloc (((((HX.out).set 10 (.int .i64 0) (cs':=#[.int .i64 (fm:Int),.int .i64 (g:Int),.int .i64 c.alg,.int .i64 c.slots,.int .i64 c.points,.int .i64 c.probes,.string c.key,.int .i64 c.formats,m,k,.int .i64 0,.int .i64 (cf:Int),.int .i64 (J:Int),.slice z T.length cap,.bool i]) rfl).set 11 (.int .i64 0) (cs':=#[.int .i64 (fm:Int),.int .i64 (g:Int),.int .i64 c.alg,.int .i64 c.slots,.int .i64 c.points,.int .i64 c.probes,.string c.key,.int .i64 c.formats,m,k,.int .i64 0,.int .i64 0,.int .i64 (J:Int),.slice z T.length cap,.bool i]) rfl).set 12 (.int .i64 0) (cs':=#[.int .i64 (fm:Int),.int .i64 (g:Int),.int .i64 c.alg,.int .i64 c.slots,.int .i64 c.points,.int .i64 c.probes,.string c.key,.int .i64 c.formats,m,k,.int .i64 0,.int .i64 0,.int .i64 0,.slice z T.length cap,.bool i]) rfl).set 13 (.slice none 0 0) (cs':=#[.int .i64 (fm:Int),.int .i64 (g:Int),.int .i64 c.alg,.int .i64 c.slots,.int .i64 c.points,.int .i64 c.probes,.string c.key,.int .i64 c.formats,m,k,.int .i64 0,.int .i64 0,.int .i64 0,.slice none 0 0,.bool i]) rfl) _
 have v:Ae w.heap.size 206 #[.int .i64 (cg:Int),.int .i64 (cf:Int),.int .i64 (J:Int),.slice z T.length cap] u:=by
  rw [o];have hz:((((w.setCell ⟨q,10,none⟩ (.int .i64 0)).setCell ⟨q,11,none⟩ (.int .i64 0)).setCell ⟨q,12,none⟩ (.int .i64 0)).setCell ⟨q,13,none⟩ (.slice none 0 0)).heap.size=w.heap.size:=js
  have:=Ae.new ((((w.setCell ⟨q,10,none⟩ (.int .i64 0)).setCell ⟨q,11,none⟩ (.int .i64 0)).setCell ⟨q,12,none⟩ (.int .i64 0)).setCell ⟨q,13,none⟩ (.slice none 0 0)) 206 #[.int .i64 (cg:Int),.int .i64 (cf:Int),.int .i64 (J:Int),.slice z T.length cap];rw [hz] at this;exact this
 have N:AN u (.slice z T.length cap) T:=by
  rw [o];exact World.ownsRow.alloc (ownsRow_setCell_other (ownsRow_setCell_other (ownsRow_setCell_other (ownsRow_setCell_other Y s _) s _) s _) s _) _
 have B:Hid (Ab [q] w u):=by
  show Ab _ _ _;rw [o];exact (((((Ab.refl [q] w).set js _).set js _).set js _).set js _).alloc _
 have H1:=jp (SI w.heap.size _ T u (v.cell 3 rfl) N hl hs);have O:=OP hs
 have C:(Cg T).length<=4294967296:=by
  have:65536 * T.length<=65536 * 65536:=Nat.mul_le_mul (jH _) hl;omega
 have d:=fun wx=>JL (Ai (Cg T)) wx (by simp [Ai,ByteArray.size];omega)
 rw [Fs] at d;have ak:=jp v;have al:Hid (w.heap.size<u.heap.size):=v.lt;have au:q≠w.heap.size:=jo
 clear h Y v N O s;obtain ⟨D,E⟩:∃D,D=Cg T:=⟨_,rfl⟩;rw [<-E] at H1 C d;have x:=jp E;clear E;go_enter Tryz.func198,Tryz.ntmps198;go_wp2_with fail;rw [<-o];clear o c0 c1 a c3 c4 c5 c6 c7 c8 c9 aa ac ae ag ai f0 f1 A f3 f4 f5 f6 f7 f8 f9 ab ad af ah aj;refine H1.out.mono ?_;rintro e w1 ⟨rfl,P⟩;have F:=jp P;clear P H1;go_wp2_with fail;rcases hi:Bj D with _|⟨A,f,a,n,r⟩
 .rw [hi] at d;unfold FH CU at d;refine (d _).mono ?_;rintro e w2 ⟨t,rfl⟩;have l:=jp (F.out.trans t);have y:=jp (M.out.bel (l.out.step_alloc (.cells #[.int .i64 0,.int .i64 0,.int .i64 0,.int .i64 0,.int .i64 0,.int .i64 0,.string ⟨#[]⟩,.int .i64 0,.slice none 0 0,.slice none 0 0] 135)));have am:=jp (B.out.step (l.out.step_alloc (.cells #[.int .i64 0,.int .i64 0,.int .i64 0,.int .i64 0,.int .i64 0,.int .i64 0,.string ⟨#[]⟩,.int .i64 0,.slice none 0 0,.slice none 0 0] 135)));have G:Hid (∀a n r,Bj D≠some (cf,cg,a,n,r)):=fun _ _ _ e=>by rw [hi] at e;cases e
  clear t d hi;go_wp2;go_end0;exact ⟨rfl,am.out,Or.inr ⟨by rw [<-x.out];exact G.out,y.out⟩⟩
 .rw [hi] at d;unfold FH D8 at d;refine (d _).mono ?_;rintro e w2 ⟨t,av,aw,rfl,H,I⟩;obtain ⟨K,L,rfl⟩:=B8 H;obtain ⟨Q,R,rfl⟩:=B8 I;have l:=jp (F.out.trans t);have b:=M.out.bel l.out;have D2:=ak.out.bel l.out;have d0:=D2.cell 0 rfl;have d1:=D2.cell 1 rfl;have ax:w.heap.size<w2.heap.size:=D2.lt;have ap:q<w2.heap.size:=b.lt;have y:=jp b;have x0:=b.cell 0 rfl;have y0:=b.free 0;have x1:=b.cell 1 rfl;have y1:=b.free 1;have x2:=b.cell 2 rfl;have y2:=b.free 2;have x3:=b.cell 3 rfl;have y3:=b.free 3;have x4:=b.cell 4 rfl;have y4:=b.free 4;have x5:=b.cell 5 rfl;have y5:=b.free 5;have x6:=b.cell 6 rfl;have y6:=b.free 6;have x7:=b.cell 7 rfl;have y7:=b.free 7;have x8:=b.cell 8 rfl;have y8:=b.free 8;have x9:=b.cell 9 rfl;have y9:=b.free 9;have ay:=b.cell 10 rfl;have az:=b.free 10;have a0:=b.cell 11 rfl;have a1:=b.free 11;have a2:=b.cell 12 rfl;have a3:=b.free 12;have a4:=b.cell 13 rfl;have a5:=b.free 13;have a6:=b.cell 14 rfl;have a7:=b.free 14;have S:=jp (B.out.step (l.out.step_alloc (.cells #[.int .i64 (A:Int),.int .i64 (f:Int),.int .i64 a.alg,.int .i64 a.slots,.int .i64 a.points,.int .i64 a.probes,.string a.key,.int .i64 a.formats,.slice K n.length L,.slice Q r.length R] 135)));have U:=jp (y.out.alloc (.cells #[.int .i64 (A:Int),.int .i64 (f:Int),.int .i64 a.alg,.int .i64 a.slots,.int .i64 a.points,.int .i64 a.probes,.string a.key,.int .i64 a.formats,.slice K n.length L,.slice Q r.length R] 135));have V:Hid (w.heap.size<=w1.heap.size):=jX (Nat.le_of_lt al.out) F.out.size;have W:=jp (AJ.mono H V.out);have X:=jp (World.ownsRow.mono I (base':=w.heap.size) V.out);clear b D2 t d H I;by_cases Z:f=cg
  .subst Z;by_cases hf:A=cf
   .subst hf;have G:Hid (Bj D=some (A,f,a,n,r)):=hi;clear hi;go_wp2;go_end0;refine ⟨rfl,?_,Or.inl ⟨a,n,r,.slice K n.length L,.slice Q r.length R,by rw [<-x.out];exact G.out,?_,?_,?_⟩⟩
    .refine Ab.alloc ?_ _
     iterate 9 (refine Ab.set ?_ js _)
     exact B.out.step l.out
    .have z0:=y.out;have z1:=z0.set 1 (.int .i64 (f:Int)) (cs':=#[.int .i64 (fm:Int),.int .i64 (f:Int),.int .i64 c.alg,.int .i64 c.slots,.int .i64 c.points,.int .i64 c.probes,.string c.key,.int .i64 c.formats,m,k,.int .i64 0,.int .i64 0,.int .i64 0,.slice none 0 0,.bool i]) rfl;have z2:=z1.set 2 (.int .i64 a.alg) (cs':=#[.int .i64 (fm:Int),.int .i64 (f:Int),.int .i64 a.alg,.int .i64 c.slots,.int .i64 c.points,.int .i64 c.probes,.string c.key,.int .i64 c.formats,m,k,.int .i64 0,.int .i64 0,.int .i64 0,.slice none 0 0,.bool i]) rfl;have z3:=z2.set 3 (.int .i64 a.slots) (cs':=#[.int .i64 (fm:Int),.int .i64 (f:Int),.int .i64 a.alg,.int .i64 a.slots,.int .i64 c.points,.int .i64 c.probes,.string c.key,.int .i64 c.formats,m,k,.int .i64 0,.int .i64 0,.int .i64 0,.slice none 0 0,.bool i]) rfl;have z4:=z3.set 4 (.int .i64 a.points) (cs':=#[.int .i64 (fm:Int),.int .i64 (f:Int),.int .i64 a.alg,.int .i64 a.slots,.int .i64 a.points,.int .i64 c.probes,.string c.key,.int .i64 c.formats,m,k,.int .i64 0,.int .i64 0,.int .i64 0,.slice none 0 0,.bool i]) rfl;have z5:=z4.set 5 (.int .i64 a.probes) (cs':=#[.int .i64 (fm:Int),.int .i64 (f:Int),.int .i64 a.alg,.int .i64 a.slots,.int .i64 a.points,.int .i64 a.probes,.string c.key,.int .i64 c.formats,m,k,.int .i64 0,.int .i64 0,.int .i64 0,.slice none 0 0,.bool i]) rfl;have z6:=z5.set 6 (.string a.key) (cs':=#[.int .i64 (fm:Int),.int .i64 (f:Int),.int .i64 a.alg,.int .i64 a.slots,.int .i64 a.points,.int .i64 a.probes,.string a.key,.int .i64 c.formats,m,k,.int .i64 0,.int .i64 0,.int .i64 0,.slice none 0 0,.bool i]) rfl;have z7:=z6.set 7 (.int .i64 a.formats) (cs':=#[.int .i64 (fm:Int),.int .i64 (f:Int),.int .i64 a.alg,.int .i64 a.slots,.int .i64 a.points,.int .i64 a.probes,.string a.key,.int .i64 a.formats,m,k,.int .i64 0,.int .i64 0,.int .i64 0,.slice none 0 0,.bool i]) rfl;have z8:=z7.set 8 (.slice K n.length L) (cs':=#[.int .i64 (fm:Int),.int .i64 (f:Int),.int .i64 a.alg,.int .i64 a.slots,.int .i64 a.points,.int .i64 a.probes,.string a.key,.int .i64 a.formats,.slice K n.length L,k,.int .i64 0,.int .i64 0,.int .i64 0,.slice none 0 0,.bool i]) rfl;have z9:=z8.set 9 (.slice Q r.length R) (cs':=#[.int .i64 (fm:Int),.int .i64 (f:Int),.int .i64 a.alg,.int .i64 a.slots,.int .i64 a.points,.int .i64 a.probes,.string a.key,.int .i64 a.formats,.slice K n.length L,.slice Q r.length R,.int .i64 0,.int .i64 0,.int .i64 0,.slice none 0 0,.bool i]) rfl;exact Ae.alloc z9 _
    .refine World.ownsRow.alloc ?_ _
     iterate 9 (refine ownsRow_setCell_below ?_ jv _)
     exact W.out
    .refine World.ownsRow.alloc ?_ _
     iterate 9 (refine ownsRow_setCell_below ?_ jv _)
     exact X.out
   .have a8:((A:Int)==(cf:Int))=false:=by rw [jI];omega
    have G:Hid (∀a n r,Bj D≠some (cf,f,a,n,r)):=fun _ _ _ e=>by rw [hi] at e;injection e with e;injection e with e;exact hf e
    clear hi;go_wp2;go_end0;exact ⟨rfl,S.out,Or.inr ⟨by rw [<-x.out];exact G.out,U.out⟩⟩
  .have a9:((f:Int)==(cg:Int))=false:=by rw [jI];omega
   have G:Hid (∀a n r,Bj D≠some (cf,cg,a,n,r)):=fun _ _ _ e=>by rw [hi] at e;injection e with e;injection e with _ e;injection e with e;exact Z e
   clear hi;go_wp2;go_end0;exact ⟨rfl,S.out,Or.inr ⟨by rw [<-x.out];exact G.out,U.out⟩⟩
def AU (cg cf b:Nat) (T:List TP) (a:Bl):Nat×Nat×Nat×List TP:=if cg<a.2.1 then (a.2.1,a.2.2.1,a.2.2.2.1,[]) else (cg,cf,b,T)
def Ea (fm g cg cf b:Nat) (T:List TP) (a:Bl):Prop:=IQ fm g cg a=true/\a.2.2.1=(AU cg cf b T a).2.1/\a.2.2.2.1=(AU cg cf b T a).2.2.1
def newT (cg cf b:Nat) (T:List TP) (a:Bl):List TP:=Dm (AU cg cf b T a).2.2.2 (a.2.2.2.2.1,a.2.2.2.2.2)
def Jz (w:jj) (a b:ju):Prop:=∀k,b.ownBlock=some k->k∈gl a\/w.heap.size<=k
def KR (q fm g:Nat) (c:Ac) (n o:ju) (cg cf b:Nat) (i:ju) (r:Bool) (T:List TP) (a:Bl) (w:jj) (e:Ending) (w':jj):Prop:=e= .returned (.tuple #[])/\Ab (q::gl i) w w'/\
 ((¬ Ea fm g cg cf b T a /\ Ae q 208 (BD fm g c n o cg cf b i r) w' /\ AN w' i T) \/
  (Ea fm g cg cf b T a /\ (newT cg cf b T a).length ≠ (AU cg cf b T a).2.2.1 /\ ∃ p, Ae q 208 (BD fm g c n o (AU cg cf b T a).1 (AU cg cf b T a).2.1 (AU cg cf b T a).2.2.1 p false) w' /\ AN w' p (newT cg cf b T a) /\ Jz w i p) \/
  (Ea fm g cg cf b T a /\ (newT cg cf b T a).length = (AU cg cf b T a).2.2.1 /\
    ((∃ k l m d f, Bj (Cg (newT cg cf b T a)) = some ((AU cg cf b T a).2.1, (AU cg cf b T a).1, k, l, m) /\ Ae q 208 (BD fm (AU cg cf b T a).1 k d f 0 0 0 (.slice none 0 0) false) w' /\ AJ w.heap.size w' d l /\ AS w.heap.size w' f m) \/
     ((∀ k l m, Bj (Cg (newT cg cf b T a)) ≠ some ((AU cg cf b T a).2.1, (AU cg cf b T a).1, k, l, m)) /\ Ae q 208 (BD fm g c n o 0 0 0 (.slice none 0 0) false) w'))))
theorem Nm (T:List TP) (p:TP):(Dm T p).length<=T.length+1:=by
 unfold Dm;split
 .rw [List.length_set];omega
 .simp only [jO,jk,List.length_cons,jh];omega
theorem LE {T:List TP} {p x:TP} (h:x∈Dm T p):x=p\/x∈T:=by
 unfold Dm at h;split at h
 .rcases List.mem_or_eq_of_mem_set h with h|h
  .exact Or.inr h
  .exact Or.inl h
 .rcases jT.1 h with h|h
  .exact Or.inr (List.mem_of_mem_take h)
  .rcases ja.1 h with h|h
   .exact Or.inl h
   .exact Or.inr (List.mem_of_mem_drop h)
theorem VE (q fm g:Nat) (c:Ac) (J K:ju) (cg cf t:Nat) (o:ju) (nf:Bool) (T:List TP) (a:Bl) (w:jj) (h:Ae q 208 (BD fm g c J K cg cf t o nf) w) (hT:AN w o T) (hl:T.length<=65535) (hs:∀p∈T,p.2.length<=65536) (bm:a.2.2.2.2.2.length<=65536) (hf:a.2.2.1<256) (b2:fm<256):
  Calls Tryz.prog 175 #[.pointer (some ⟨q,0,none⟩),.agg (GZ a)] w (KR q fm g c J K cg cf t o nf T a w):=by
 have be:=fun wx hx=>VP q fm g c J K cg cf t o nf a wx hx hf b2
 have HU:Hid (Ea fm g cg cf t T a↔IQ fm g cg a=true/\a.2.2.1=(AU cg cf t T a).2.1/\a.2.2.2.1=(AU cg cf t T a).2.2.1):=Iff.rfl;have m:Hid (AU cg cf t T a=if cg<a.2.1 then (a.2.1,a.2.2.1,a.2.2.2.1,[]) else (cg,cf,t,T)):=rfl;have bn:Hid (newT cg cf t T a=Dm (AU cg cf t T a).2.2.2 (a.2.2.2.2.1,a.2.2.2.2.2)):=rfl;generalize IQ fm g cg a=wt at *
 have bo:o.ownBlock≠some q:=fun e=>by
  rcases hT.2 with ⟨g1,_⟩|⟨g',b6,b7,g1,_,g2,_⟩
  .rw [g1] at e;cases e
  .rw [g1] at e;have hg:g'=q:=by simpa [Value.ownBlock] using e
   subst hg;rw [Ae,g2] at h;injection h with h
   injection h with _ h
   revert h;decide
 have b8:Hid (∀k,o.ownBlock=some k->k<w.heap.size):=fun k y=>(World.ownsRow.lt hT k y).2
 obtain ⟨k,f,d,b,i,l⟩:=a;unfold GZ at *;simp only at *;unfold BD at h be;obtain ⟨W0,ai⟩:∃W0,W0=w.alloc (.cells #[.int .i64 (k:Int),.int .i64 (f:Int),.int .i64 (d:Int),.int .i64 (b:Int),.int .i64 (i:Int),.string (Ai l)] 109):=⟨_,rfl⟩;have bb:Aa w W0:=by rw [ai];exact (jD w).step_alloc _
 have bp:Hid (Ae w.heap.size 109 #[.int .i64 (k:Int),.int .i64 (f:Int),.int .i64 (d:Int),.int .i64 (b:Int),.int .i64 (i:Int),.string (Ai l)] W0):=by show Ae _ _ _ W0;rw [ai];exact Ae.new _ _ _
 have bf:=jp (h.bel bb);have bq:=jp (hT.later bb);have br:=jp bb;have b9:=h.lt;have ca:Hid (W0.heap.size=w.heap.size+1):=by show _=_;rw [ai];simp
 have b3:=jp bo;clear h hT bb bo;go_enter Tryz.func175,Tryz.ntmps175;go_wp2_with fail;rw [<-ai];clear ai;refine (be _ bf.out).mono ?_;rintro e w1 ⟨rfl,aj⟩;have D:=jp (bf.out.bel aj);have Y:=jp (bq.out.later aj);have Z:=jp (bp.out.bel aj);have N:=jp (br.out.trans aj);have bc:q<w1.heap.size:=D.out.lt;have bd:w.heap.size<w1.heap.size:=Z.out.lt;clear aj be bf bq bp br;cases wt
 .have HN:Hid (¬Ea fm g cg cf t T (k,f,d,b,i,l)):=fun h=>by have:=(HU.out.1 h).1;cases this
  go_wp2;go_end0;exact ⟨rfl,Ab.of_bel N.out,Or.inl ⟨HN.out,D.out,Y.out⟩⟩
 have n:=D.out;have A1:=Z.out;have c0:=n.cell 0 rfl;have f0:=n.free 0;have c1:=n.cell 1 rfl;have f1:=n.free 1;have c2:=n.cell 2 rfl;have f2:=n.free 2;have c3:=n.cell 3 rfl;have f3:=n.free 3;have c4:=n.cell 4 rfl;have f4:=n.free 4;have c5:=n.cell 5 rfl;have f5:=n.free 5;have c6:=n.cell 6 rfl;have f6:=n.free 6;have c7:=n.cell 7 rfl;have f7:=n.free 7;have c8:=n.cell 8 rfl;have f8:=n.free 8;have c9:=n.cell 9 rfl;have f9:=n.free 9;have bs:=n.cell 10 rfl;have bt:=n.free 10;have aa:=n.cell 11 rfl;have bu:=n.free 11;have ac:=n.cell 12 rfl;have bv:=n.free 12;have bw:=n.cell 13 rfl;have bx:=n.free 13;have ad:=n.cell 14 rfl;have ae:=n.free 14;have a0:=A1.cell 0 rfl;have a1:=A1.cell 1 rfl;have a2:=A1.cell 2 rfl;have a3:=A1.cell 3 rfl;have a4:=A1.cell 4 rfl;have a5:=A1.cell 5 rfl;clear n A1;by_cases bz:cg<f
 .rw [if_pos bz] at m;have b4:decide ((cg:Int)<(f:Int))=true:=jL jo;have bg:(((d:Int)) !=(d:Int))=false:=js
  have b0:(((b:Int)) !=(b:Int))=false:=js
  have ak:Hid (Ea fm g cg cf t T (k,f,d,b,i,l)):=HU.out.2 ⟨js,by rw [m.out],by rw [m.out]⟩;go_wp2_with fail;go_quiet (fail);go_wp2_with fail;obtain ⟨u,v⟩:∃u,u=((((w1.drewN nq).setCell ⟨q,10,none⟩ (.int .i64 (f:Int))).setCell ⟨q,11,none⟩ (.int .i64 (d:Int))).setCell ⟨q,12,none⟩ (.int .i64 (b:Int))).setCell ⟨q,13,none⟩ (.slice none 0 0):=⟨_,rfl⟩;have O:Hid (Ae q 208 #[.int .i64 (fm:Int),.int .i64 (g:Int),.int .i64 c.alg,.int .i64 c.slots,.int .i64 c.points,.int .i64 c.probes,.string c.key,.int .i64 c.formats,J,K,.int .i64 (f:Int),.int .i64 (d:Int),.int .i64 (b:Int),.slice none 0 0,.bool nf] u):=by show Ae _ _ _ u;rw [v];exact ((((D.out.bel ((jD _).step_drewN _)).set 10 (.int .i64 (f:Int)) (cs':=#[.int .i64 (fm:Int),.int .i64 (g:Int),.int .i64 c.alg,.int .i64 c.slots,.int .i64 c.points,.int .i64 c.probes,.string c.key,.int .i64 c.formats,J,K,.int .i64 (f:Int),.int .i64 (cf:Int),.int .i64 (t:Int),o,.bool nf]) rfl).set 11 (.int .i64 (d:Int)) (cs':=#[.int .i64 (fm:Int),.int .i64 (g:Int),.int .i64 c.alg,.int .i64 c.slots,.int .i64 c.points,.int .i64 c.probes,.string c.key,.int .i64 c.formats,J,K,.int .i64 (f:Int),.int .i64 (d:Int),.int .i64 (t:Int),o,.bool nf]) rfl).set 12 (.int .i64 (b:Int)) (cs':=#[.int .i64 (fm:Int),.int .i64 (g:Int),.int .i64 c.alg,.int .i64 c.slots,.int .i64 c.points,.int .i64 c.probes,.string c.key,.int .i64 c.formats,J,K,.int .i64 (f:Int),.int .i64 (d:Int),.int .i64 (b:Int),o,.bool nf]) rfl).set 13 (.slice none 0 0) (cs':=#[.int .i64 (fm:Int),.int .i64 (g:Int),.int .i64 c.alg,.int .i64 c.slots,.int .i64 c.points,.int .i64 c.probes,.string c.key,.int .i64 c.formats,J,K,.int .i64 (f:Int),.int .i64 (d:Int),.int .i64 (b:Int),.slice none 0 0,.bool nf]) rfl
  have P:Hid (Ae w.heap.size 109 #[.int .i64 (k:Int),.int .i64 (f:Int),.int .i64 (d:Int),.int .i64 (b:Int),.int .i64 (i:Int),.string (Ai l)] u):=by show Ae _ _ _ u;rw [v];exact ((((Z.out.bel ((jD _).step_drewN _)).setO jv _).setO jv _).setO jv _).setO jv _
  have Q:Hid (Ab (q::gl o) w u):=by show Ab _ _ _;rw [v];exact (((((Ab.of_bel (M:=q::gl o) N.out).drewN _).set js _).set js _).set js _).set js _
  have al:Hid (AN u (.slice none 0 0) []):=World.ownsRow_nil _ _ _ _;have bh:Hid (w.heap.size<=u.heap.size):=Q.out.size;rw [<-v];clear v c0 c1 c2 c3 c4 c5 c6 c7 c8 c9 bs aa ac bw ad f0 f1 f2 f3 f4 f5 f6 f7 f8 f9 bt bu bv bx ae a0 a1 a2 a3 a4 a5 D Y Z N bd bc;have X2:=O.out;have A2:=P.out;have am:q<u.heap.size:=X2.lt;have ao:w.heap.size<u.heap.size:=A2.lt;have aa:=X2.cell 11 rfl;have ac:=X2.cell 12 rfl;have ad:=X2.cell 14 rfl;have ae:=X2.free 14;have a2:=A2.cell 2 rfl;have a3:=A2.cell 3 rfl;clear X2 A2;go_quiet (fail);go_wp2_with fail;obtain ⟨x,s⟩:∃x,x=(u.drewN nq).setCell ⟨q,14,none⟩ (.bool false):=⟨_,rfl⟩;have aq:Hid (Ae q 208 #[.int .i64 (fm:Int),.int .i64 (g:Int),.int .i64 c.alg,.int .i64 c.slots,.int .i64 c.points,.int .i64 c.probes,.string c.key,.int .i64 c.formats,J,K,.int .i64 (f:Int),.int .i64 (d:Int),.int .i64 (b:Int),.slice none 0 0,.bool false] x):=by show Ae _ _ _ x;rw [s];exact (O.out.bel ((jD _).step_drewN _)).set 14 (.bool false) rfl
  have ar:Hid (Ae w.heap.size 109 #[.int .i64 (k:Int),.int .i64 (f:Int),.int .i64 (d:Int),.int .i64 (b:Int),.int .i64 (i:Int),.string (Ai l)] x):=by show Ae _ _ _ x;rw [s];exact (P.out.bel ((jD _).step_drewN _)).setO jv _
  have R:Hid (Ab (q::gl o) w x):=by show Ab _ _ _;rw [s];exact (Q.out.drewN _).set js _
  have au:Hid (AN x (.slice none 0 0) []):=by
   show AN _ _ _;rw [s];exact ownsRow_setCell_other (al.out.later ((jD _).step_drewN _)) (by simp [Value.ownBlock]) _
  have bi:Hid (w.heap.size<=x.heap.size):=R.out.size;rw [<-s];clear s aa ac ad ae a2 a3 O al P Q bh am ao;have A3:=ar.out;have a4:=A3.cell 4 rfl;have a5:=A3.cell 5 rfl;have H6:=fun wx (hx:Aa x wx)=>N3 q 208 _ [] i l (.slice none 0 0) wx (aq.out.bel hx) rfl (au.out.later hx) js ji
  clear A3;go_region_with (go_at_call 196;refine Calls.mono (H6 _ (by first|exact jD _|exact jB (jD _))) ?_;rintro e w4 ⟨z,rfl,av,E,A,B⟩;have aw:Ab (q::gl (.slice none 0 0)) x w4:=(by first|exact A|exact (Ab.of_bel ((jD x).step_drew)).trans A);have ax:z.ownBlock=Value.ownBlock (.slice none 0 0)\/∃g,z.ownBlock=some g/\w.heap.size<=g:=(by rcases B with h|⟨g,h1,h2⟩;exact Or.inl h;exact Or.inr ⟨g,h1,jX bi.out (by first|exact h2|simpa using h2)⟩);clear A B)
  all_goals
   have F:Hid (Ae q 208 #[.int .i64 (fm:Int),.int .i64 (g:Int),.int .i64 c.alg,.int .i64 c.slots,.int .i64 c.points,.int .i64 c.probes,.string c.key,.int .i64 c.formats,J,K,.int .i64 (f:Int),.int .i64 (d:Int),.int .i64 (b:Int),z,.bool false] w4):=av;have ay:Hid (Ab (q::gl o) w w4):=R.out.trans (aw.mono (fun k y=>by simp [gl,Value.ownBlock] at y;subst y;simp))
   have S:Hid (Jz w o z):=fun k y=>by
    rcases ax with e|⟨g4,e1,e2⟩
    .rw [e] at y;cases y
    .rw [e1] at y;injection y with y
     exact Or.inr jo
   have C:Hid (newT cg cf t T (k,f,d,b,i,l)=Dm [] (i,l)):=by show _=_;rw [bn.out,m.out]
   have ah:=Nm [] (i,l)
   have U:∀p∈Dm [] (i,l),p.2.length<=65536:=fun p hp=>by
    rcases LE hp with h|h
    .rw [h];exact bm
    .cases h
   obtain ⟨T',az⟩:∃T',T'=Dm [] (i,l):=⟨_,rfl⟩;rw [<-az] at E C ah U;have a6:=jp E;have a7:T'.length<=65536:=by simp at ah;omega
   have H7:=jp (O0 q b z T' w4 (F.out.cell 12 rfl) (F.out.cell 13 rfl) E);have V:=jp U;clear av E aw ax az H6 aq ar R au a4 a5 ah U;go_wp2_with fail;refine H7.out.mono ?_;rintro e w5 ⟨rfl,G⟩;have H:=jp (F.out.bel G);have I:=jp (a6.out.later G);have W:=jp (ay.out.step G);clear G H7 F a6 ay;cases X:((T'.length:Int)==(b:Int))
   .have HW:Hid ((newT cg cf t T (k,f,d,b,i,l)).length≠(AU cg cf t T (k,f,d,b,i,l)).2.2.1):=by
     show _≠_;rw [C.out,m.out];intro e;rw [e] at X;simp at X
    have HF:Hid (∃z,Ae q 208 (BD fm g c J K (AU cg cf t T (k,f,d,b,i,l)).1 (AU cg cf t T (k,f,d,b,i,l)).2.1 (AU cg cf t T (k,f,d,b,i,l)).2.2.1 z false) w5/\AN w5 z (newT cg cf t T (k,f,d,b,i,l))/\Jz w o z):=by
     show ∃_,_;rw [C.out,m.out];exact ⟨z,H.out,I.out,S.out⟩
    clear H I S V
    go_wp2
    go_end0
    exact ⟨rfl,W.out,Or.inr (Or.inl ⟨ak.out,HW.out,HF.out⟩)⟩
   .have HW:Hid ((newT cg cf t T (k,f,d,b,i,l)).length=(AU cg cf t T (k,f,d,b,i,l)).2.2.1):=by
     show _=_;rw [C.out,m.out];have:=beq_iff_eq.1 X;simp only;omega
    have H8:=jp (NW q fm g c J K f d b z false T' w5 H.out I.out a7 V.out)
    have a8:Hid (w.heap.size<=w5.heap.size):=W.out.size
    clear H I S V
    go_wp2_with fail
    refine H8.out.mono ?_
    rintro e w6 ⟨rfl,a9,L⟩
    have bj:=jp (W.out.trans (a9.mono (M':=q::gl o) (fun k y=>Or.inl (by simp at y;subst y;simp))))
    have ba:=jp L
    clear a9 L H8
    go_wp2
    go_end0
    refine ⟨rfl,bj.out,Or.inr (Or.inr ⟨ak.out,HW.out,?_⟩)⟩
    rw [C.out,m.out]
    rcases ba.out with ⟨c2,B2,E2,bk,bl,r1,r2,r3,r4⟩|r
    .exact Or.inl ⟨c2,B2,E2,bk,bl,r1,r2,AJ.mono r3 a8.out,World.ownsRow.mono r4 (base':=w.heap.size) a8.out⟩
    .exact Or.inr r
 .rw [if_neg bz] at m;have b4:decide ((cg:Int)<(f:Int))=false:=jK jo;by_cases b1:d=cf/\b=t
  .obtain ⟨rfl,rfl⟩:=b1;have bg:(((d:Int)) !=(d:Int))=false:=js
   have b0:(((b:Int)) !=(b:Int))=false:=js
   have ak:Hid (Ea fm g cg d b T (k,f,d,b,i,l)):=HU.out.2 ⟨js,by rw [m.out],by rw [m.out]⟩;go_wp2_with fail;go_quiet (fail);go_wp2_with fail;obtain ⟨u,v⟩:∃u,u=w1.drewN nq:=⟨_,rfl⟩;have O:Hid (Ae q 208 #[.int .i64 (fm:Int),.int .i64 (g:Int),.int .i64 c.alg,.int .i64 c.slots,.int .i64 c.points,.int .i64 c.probes,.string c.key,.int .i64 c.formats,J,K,.int .i64 (cg:Int),.int .i64 (d:Int),.int .i64 (b:Int),o,.bool nf] u):=by show Ae _ _ _ u;rw [v];exact D.out.bel ((jD _).step_drewN _)
   have P:Hid (Ae w.heap.size 109 #[.int .i64 (k:Int),.int .i64 (f:Int),.int .i64 (d:Int),.int .i64 (b:Int),.int .i64 (i:Int),.string (Ai l)] u):=by show Ae _ _ _ u;rw [v];exact Z.out.bel ((jD _).step_drewN _)
   have Q:Hid (Ab (q::gl o) w u):=by show Ab _ _ _;rw [v];exact (Ab.of_bel (M:=q::gl o) N.out).drewN _
   have al:Hid (AN u o T):=by show AN _ _ _;rw [v];exact Y.out.later ((jD _).step_drewN _)
   have bh:Hid (w.heap.size<=u.heap.size):=Q.out.size;rw [<-v];clear v c0 c1 c2 c3 c4 c5 c6 c7 c8 c9 bs aa ac bw ad f0 f1 f2 f3 f4 f5 f6 f7 f8 f9 bt bu bv bx ae a0 a1 a2 a3 a4 a5 D Y Z N bd bc;have X2:=O.out;have A2:=P.out;have am:q<u.heap.size:=X2.lt;have ao:w.heap.size<u.heap.size:=A2.lt;have aa:=X2.cell 11 rfl;have ac:=X2.cell 12 rfl;have ad:=X2.cell 14 rfl;have ae:=X2.free 14;have a2:=A2.cell 2 rfl;have a3:=A2.cell 3 rfl;clear X2 A2;go_quiet (fail);go_wp2_with fail;obtain ⟨x,s⟩:∃x,x=(u.drewN nq).setCell ⟨q,14,none⟩ (.bool false):=⟨_,rfl⟩;have aq:Hid (Ae q 208 #[.int .i64 (fm:Int),.int .i64 (g:Int),.int .i64 c.alg,.int .i64 c.slots,.int .i64 c.points,.int .i64 c.probes,.string c.key,.int .i64 c.formats,J,K,.int .i64 (cg:Int),.int .i64 (d:Int),.int .i64 (b:Int),o,.bool false] x):=by show Ae _ _ _ x;rw [s];exact (O.out.bel ((jD _).step_drewN _)).set 14 (.bool false) rfl
   have ar:Hid (Ae w.heap.size 109 #[.int .i64 (k:Int),.int .i64 (f:Int),.int .i64 (d:Int),.int .i64 (b:Int),.int .i64 (i:Int),.string (Ai l)] x):=by show Ae _ _ _ x;rw [s];exact (P.out.bel ((jD _).step_drewN _)).setO jv _
   have R:Hid (Ab (q::gl o) w x):=by show Ab _ _ _;rw [s];exact (Q.out.drewN _).set js _
   have au:Hid (AN x o T):=by
    show AN _ _ _;rw [s];exact ownsRow_setCell_other (al.out.later ((jD _).step_drewN _)) b3.out _
   have bi:Hid (w.heap.size<=x.heap.size):=R.out.size;rw [<-s];clear s aa ac ad ae a2 a3 O al P Q bh am ao;have A3:=ar.out;have a4:=A3.cell 4 rfl;have a5:=A3.cell 5 rfl;have H6:=fun wx (hx:Aa x wx)=>N3 q 208 _ T i l o wx (aq.out.bel hx) rfl (au.out.later hx) jo ji
   clear A3;go_region_with (go_at_call 196;refine Calls.mono (H6 _ (by first|exact jD _|exact jB (jD _))) ?_;rintro e w4 ⟨z,rfl,av,E,A,B⟩;have aw:Ab (q::gl o) x w4:=(by first|exact A|exact (Ab.of_bel ((jD x).step_drew)).trans A);have ax:z.ownBlock=Value.ownBlock o\/∃g,z.ownBlock=some g/\w.heap.size<=g:=(by rcases B with h|⟨g,h1,h2⟩;exact Or.inl h;exact Or.inr ⟨g,h1,jX bi.out (by first|exact h2|simpa using h2)⟩);clear A B)
   all_goals
    have F:Hid (Ae q 208 #[.int .i64 (fm:Int),.int .i64 (g:Int),.int .i64 c.alg,.int .i64 c.slots,.int .i64 c.points,.int .i64 c.probes,.string c.key,.int .i64 c.formats,J,K,.int .i64 (cg:Int),.int .i64 (d:Int),.int .i64 (b:Int),z,.bool false] w4):=av;have ay:Hid (Ab (q::gl o) w w4):=R.out.trans (aw.mono (fun k y=>Or.inl y))
    have S:Hid (Jz w o z):=fun k y=>by
     rcases ax with e|⟨g4,e1,e2⟩
     .exact Or.inl (by unfold gl;rw [<-e,y];simp)
     .rw [e1] at y;injection y with y
      exact Or.inr jo
    have C:Hid (newT cg d b T (k,f,d,b,i,l)=Dm T (i,l)):=by show _=_;rw [bn.out,m.out]
    have ah:=Nm T (i,l)
    have U:∀p∈Dm T (i,l),p.2.length<=65536:=fun p hp=>by
     rcases LE hp with h|h
     .rw [h];exact bm
     .exact hs p h
    obtain ⟨T',az⟩:∃T',T'=Dm T (i,l):=⟨_,rfl⟩;rw [<-az] at E C ah U;have a6:=jp E;have a7:T'.length<=65536:=jo
    have H7:=jp (O0 q b z T' w4 (F.out.cell 12 rfl) (F.out.cell 13 rfl) E);have V:=jp U;clear av E aw ax az H6 aq ar R au a4 a5 ah U;go_wp2_with fail;refine H7.out.mono ?_;rintro e w5 ⟨rfl,G⟩;have H:=jp (F.out.bel G);have I:=jp (a6.out.later G);have W:=jp (ay.out.step G);clear G H7 F a6 ay;cases X:((T'.length:Int)==(b:Int))
    .have HW:Hid ((newT cg d b T (k,f,d,b,i,l)).length≠(AU cg d b T (k,f,d,b,i,l)).2.2.1):=by
      show _≠_;rw [C.out,m.out];intro e;rw [e] at X;simp at X
     have HF:Hid (∃z,Ae q 208 (BD fm g c J K (AU cg d b T (k,f,d,b,i,l)).1 (AU cg d b T (k,f,d,b,i,l)).2.1 (AU cg d b T (k,f,d,b,i,l)).2.2.1 z false) w5/\AN w5 z (newT cg d b T (k,f,d,b,i,l))/\Jz w o z):=by
      show ∃_,_;rw [C.out,m.out];exact ⟨z,H.out,I.out,S.out⟩
     clear H I S V
     go_wp2
     go_end0
     exact ⟨rfl,W.out,Or.inr (Or.inl ⟨ak.out,HW.out,HF.out⟩)⟩
    .have HW:Hid ((newT cg d b T (k,f,d,b,i,l)).length=(AU cg d b T (k,f,d,b,i,l)).2.2.1):=by
      show _=_;rw [C.out,m.out];have:=beq_iff_eq.1 X;simp only;omega
     have H8:=jp (NW q fm g c J K cg d b z false T' w5 H.out I.out a7 V.out)
     have a8:Hid (w.heap.size<=w5.heap.size):=W.out.size
     clear H I S V
     go_wp2_with fail
     refine H8.out.mono ?_
     rintro e w6 ⟨rfl,a9,L⟩
     have bj:=jp (W.out.trans (a9.mono (M':=q::gl o) (fun k y=>Or.inl (by simp at y;subst y;simp))))
     have ba:=jp L
     clear a9 L H8
     go_wp2
     go_end0
     refine ⟨rfl,bj.out,Or.inr (Or.inr ⟨ak.out,HW.out,?_⟩)⟩
     rw [C.out,m.out]
     rcases ba.out with ⟨c2,B2,E2,bk,bl,r1,r2,r3,r4⟩|r
     .exact Or.inl ⟨c2,B2,E2,bk,bl,r1,r2,AJ.mono r3 a8.out,World.ownsRow.mono r4 (base':=w.heap.size) a8.out⟩
     .exact Or.inr r
  .have HN:Hid (¬Ea fm g cg cf t T (k,f,d,b,i,l)):=fun h=>by
    have h2:=(HU.out.1 h).2;rw [m.out] at h2;exact b1 h2
   by_cases b5:d=cf
   .have bg:(((d:Int)) !=(cf:Int))=false:=by rw [b5];simp
    have b0:(((b:Int)) !=(t:Int))=true:=by rw [bne_iff_ne];omega
    go_wp2_with fail
    go_quiet (fail)
    go_wp2_with fail
    go_quiet (fail)
    go_wp2
    go_end0
    exact ⟨rfl,(((Ab.of_bel N.out).drewN _).drewN _),Or.inl ⟨HN.out,D.out.bel (((jD _).step_drewN _).step_drewN _),Y.out.later (((jD _).step_drewN _).step_drewN _)⟩⟩
   .have bg:(((d:Int)) !=(cf:Int))=true:=by rw [bne_iff_ne];omega
    go_wp2_with fail
    go_quiet (fail)
    go_wp2_with fail
    go_quiet (fail)
    go_wp2
    go_end0
    exact ⟨rfl,(((Ab.of_bel N.out).drewN _).drewN _),Or.inl ⟨HN.out,D.out.bel (((jD _).step_drewN _).step_drewN _),Y.out.later (((jD _).step_drewN _).step_drewN _)⟩⟩
def My (q fm g:Nat) (c:Ac) (d f:ju) (cg cf i:Nat) (b:ju) (l:Bool) (T:List TP) (a:Bl) (w:jj) (e:Ending) (w':jj):Prop:=e= .returned (.tuple #[])/\Ab (q::gl b) w w'/\
 ((a.1≠1/\Ae q 208 (BD fm g c d f cg cf i b (a.1==2)) w'/\AN w' b T)\/(a.1=1/\∃k,Aa w k/\KR q fm g c d f cg cf i b l T a k (.returned (.tuple #[])) w'))
theorem WQ (q fm g:Nat) (c:Ac) (r s:ju) (cg cf t:Nat) (b:ju) (u:Bool) (T:List TP) (a:Bl) (w:jj) (h:Ae q 208 (BD fm g c r s cg cf t b u) w) (f:AN w b T) (A:T.length<=65535) (B:∀p∈T,p.2.length<=65536) (i:a.2.2.2.2.2.length<=65536) (C:a.2.2.1<256) (l:fm<256) (E:a.1=0\/a.1=1\/a.1=2):
  Calls Tryz.prog 135 #[.pointer (some ⟨q,0,none⟩),.agg (GZ a)] w (My q fm g c r s cg cf t b u T a w):=by
 have v:=fun F hx f=>VE q fm g c r s cg cf t b u T a F hx f A B i C l
 have m:b.ownBlock≠some q:=fun e=>by
  rcases f.2 with ⟨x,_⟩|⟨G,D,H,x,_,I,_⟩
  .rw [x] at e;cases e
  .rw [x] at e;have J:G=q:=by simpa [Value.ownBlock] using e
   subst J;rw [Ae,I] at h;injection h with h
   injection h with _ h
   revert h;decide
 have HX:=jp h;have n:=jp f;have d:=jp m;have K:=h.lt;have L:q≠w.heap.size:=jo
 unfold BD at h;have N:=h.cell 14 rfl;have O:=h.free 14;obtain ⟨k,Q,R,S,U,V⟩:=a;unfold GZ at *;simp only at *;clear h f m A B i C l;rcases E with rfl|rfl|rfl
 .go_enter Tryz.func135,Tryz.ntmps135;go_wp2;go_end0;refine ⟨rfl,?_,Or.inl ⟨js,?_,?_⟩⟩
  .first
   |exact ((Ab.refl (q::gl b) w).set js _).alloc _
   |exact ((Ab.refl (q::gl b) w).alloc _).set js _
  .first
   |exact Ae.alloc (HX.out.set 14 (.bool false) rfl) _
   |exact (HX.out.alloc _).set 14 (.bool false) rfl
  .first
   |exact World.ownsRow.alloc (ownsRow_setCell_other n.out d.out _) _
   |exact ownsRow_setCell_other (World.ownsRow.alloc n.out _) d.out _
 .go_enter Tryz.func135,Tryz.ntmps135;go_wp2_with fail;refine (v _ (HX.out.bel ((jD w).step_alloc _)) (n.out.later ((jD w).step_alloc _))).mono ?_;rintro e W y;obtain ⟨rfl,o, -⟩:=id y;have P:=jp y;have z:=jp ((Ab.of_bel (M:=q::gl b) ((jD w).step_alloc _)).trans o);clear y o;go_wp2;go_end0;exact ⟨rfl,z.out,Or.inr ⟨rfl,_,(jD w).step_alloc _,P.out⟩⟩
 .go_enter Tryz.func135,Tryz.ntmps135;go_wp2;go_end0;refine ⟨rfl,?_,Or.inl ⟨js,?_,?_⟩⟩
  .first
   |exact ((Ab.refl (q::gl b) w).set js _).alloc _
   |exact ((Ab.refl (q::gl b) w).alloc _).set js _
  .first
   |exact Ae.alloc (HX.out.set 14 (.bool true) rfl) _
   |exact (HX.out.alloc _).set 14 (.bool true) rfl
  .first
   |exact World.ownsRow.alloc (ownsRow_setCell_other n.out d.out _) _
   |exact ownsRow_setCell_other (World.ownsRow.alloc n.out _) d.out _
def AZ (w:jj) (r j:Nat):Value:=(w.cell? ⟨r,j,none⟩).getD (.bool false)
theorem Oe {w:jj} {r j:Nat} {u:ju} (h:w.cell? ⟨r,j,none⟩=some u):w.cell? ⟨r,j,none⟩=some (AZ w r j):=by rw [AZ,h];rfl
def RQ (w:jj) (v:ju) (e:Ending) (w':jj):Prop:=e= .returned v/\Aa w w'
theorem five {w:jj} {r:Nat} {b:TypeId} {a:Array Value} (h:Ae r b a w) (c:a.size=5) (j:Nat) (d:j<5):w.cell? ⟨r,j,none⟩=some (AZ w r j):=by
 have:a[j]?=some a[j]:=Array.getElem?_eq_getElem jo;exact Oe (h.cell j this)
end Go.Proofs.YtpapdkhjdelfcaaGreat
