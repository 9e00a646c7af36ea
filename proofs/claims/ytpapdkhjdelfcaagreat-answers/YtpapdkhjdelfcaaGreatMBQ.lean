import Derived.Test.YtpapdkhjdelfcaaGreatMBP
import Derived.Deep.RegionLaw
import Derived.Laws.CopyOwn
namespace Go.Proofs.YtpapdkhjdelfcaaGreat
open Go.RowKit
set_option maxRecDepth 100000
set_option maxHeartbeats 4000000
theorem Tryz.infoPair:(Tryz.prog.info? 59).map (fun i=>(i.zero,i.size,i.bytes))=some (some (.pointer none),1,8):=by kernel_rfl
theorem Cz.new (w:jj) (a:Array Value) (t:TypeId) (d:a.size<=100):Cz w.heap.size a.toList (w.alloc (.cells a t)):=by
 have h:=World.ownsRow_lit (base:=w.heap.size) (e:=t) w a a.size (jH _) (by unfold maxLen;omega) (Nat.mul_one _).symm;refine ⟨fun o u b=>?_,fun o f=>World.ownsRow.frozenAt h o⟩;have c:=(List.getElem?_eq_some_iff.1 b).1;exact (World.ownsRow.cellAt h o (by simpa using c)).trans b
theorem AG.new0 {M:jr} {q:Nat} {c:Ac} {w:jj} (h:Bt (.slice none 0 0) M q c [] 0 w):AG M q ⟨c,[],0,[],[]⟩ w:=
 ⟨_,h,World.ownsRow_nil _ _ _ _,rfl,js,js,by simp [AT.own,Bh],js⟩
def PS (base p n:Nat) (f:ju) (i:List Value) (c:Ac) (w:jj) (e:Ending) (w':jj):Prop:=e= .returned (.bool true)/\∃(q a g cap:Nat) (b d:jj),Aa w b/\w.heap.size<=q/\q<b.heap.size/\w.heap.size<=a/\a<b.heap.size/\a≠q/\
 Cz a [.pointer (some ⟨q,0,none⟩),.int .i64 c.alg,.int .i64 c.slots,.int .i64 c.points,.int .i64 c.probes,.string c.key,.int .i64 c.formats,.slice none 0 0,.pointer none,.slice none 0 0] b/\(∀M:jr,q∈M->Bt (.slice none 0 0) M q c [] 0 b)/\
 Ab f.ownBlock.toList b d/\w'=d.setCell ⟨p,6,none⟩ (sl g (n+1) cap)/\d.ownsRow base 59 1 (sl g (n+1) cap) (n+1) (i++[.pointer (some ⟨a,0,none⟩)])/\(f.ownBlock=some g\/b.heap.size<=g)
theorem Q4 (base p n:Nat) (r:ju) (A:List Value) (c:Ac) (w:jj) (K:c.OK) (s:c.Fit) (Z:w.cell? ⟨p,0,none⟩=some (.int .i64 c.alg)) (c1:w.cell? ⟨p,1,none⟩=some (.int .i64 c.slots)) (c2:w.cell? ⟨p,2,none⟩=some (.int .i64 c.points)) (c3:w.cell? ⟨p,3,none⟩=some (.int .i64 c.probes)) (c4:w.cell? ⟨p,4,none⟩=some (.string c.key)) (c5:w.cell? ⟨p,5,none⟩=some (.int .i64 c.formats))
  (H:w.cell? ⟨p,6,none⟩=some r) (f6:w.frozen? ⟨p,6,none⟩=false) (t:w.ownsRow base 59 1 r n A) (hn:n<=200000) (hb:base<=w.heap.size) (L:r.ownBlock≠some p):
  Calls Tryz.prog 32 #[.pointer (some ⟨p,0,none⟩)] w (PS base p n r A c w):=by
 obtain ⟨i0,hi,N,O,P⟩:=info_parts Tryz.infoPair;have B:=fun Q=>PG c Q K
 have C:=fun Q=>Mb c Q s
 have I:=jp t;have HC:=jp K;have aa:=jF H;obtain ⟨alg,k,f,i,key,a⟩:=c;simp only [Ac.cells] at *;clear t K s;go_enter Tryz.func32,Tryz.ntmps32;go_wp2_with fail;refine (B _).mono ?_;rintro e w1 ⟨q,rfl,d,R,ae,hS⟩;have HS:=jp hS;have k0:=d.cell Z;have k1:=d.cell c1;have k2:=d.cell c2;have k3:=d.cell c3;have k4:=d.cell c4;have k5:=d.cell c5;have S:=d.cell H;have T:=d.frozen H f6;clear hS B;go_wp2_with fail;refine (C _).mono ?_;rintro e m ⟨x,rfl,b,hx⟩;obtain rfl:x=true:=hx.2 HC.out;have m0:=b.cell k0;have m1:=b.cell k1;have m2:=b.cell k2;have m3:=b.cell k3;have m4:=b.cell k4;have m5:=b.cell k5;have U:=b.cell S;have n6:=b.frozen S T;have v:Aa w m:=d.trans b;have V:=jp (BG I.out v);have ab:=d.size;have ac:=b.size;clear C hx k0 k1 k2 k3 k4 k5 S T Z c1 c2 c3 c4 c5 H f6 I;have D:p∉r.ownBlock.toList:=fun h=>L (by simpa using h)
 have af:p<m.heap.size:=jF U
 have HX:∀(E:jj),Aa ((m.alloc (.cells #[.pointer (some ⟨q,0,none⟩),.int .i64 alg,.int .i64 k,.int .i64 f,.int .i64 i,.string key,.int .i64 a,.slice none 0 0,.pointer none,.slice none 0 0] 64)).alloc (.cells #[.pointer (some ⟨m.heap.size,0,none⟩)] 59)) E->∀g cap z,Ab r.ownBlock.toList E z->z.ownsRow base 59 1 (.slice (some ⟨g,0,none⟩) (n+1) cap) (n+1) (A++[.pointer (some ⟨m.heap.size,0,none⟩)])->(r.ownBlock=some g\/g=E.heap.size)->
   Hid (PS base p n r A ⟨alg,k,f,i,key,a⟩ w (.returned (.bool true)) (z.setCell ⟨p,6,none⟩ (.slice (some ⟨g,0,none⟩) (n+1) cap))):=fun E J g cap z W h3 X=>by
  have bA:=Aa.step_alloc (Aa.step_alloc (jD m) (.cells #[.pointer (some ⟨q,0,none⟩),.int .i64 alg,.int .i64 k,.int .i64 f,.int .i64 i,.string key,.int .i64 a,.slice none 0 0,.pointer none,.slice none 0 0] 64)) (.cells #[.pointer (some ⟨m.heap.size,0,none⟩)] 59);have Y:=J.size;simp only [World.alloc,Array.size_push] at Y;refine ⟨rfl,q,m.heap.size,g,cap,E,z,v.trans (bA.trans J),R,jo,jo,jo,jo,((Cz.new m _ _ js).later (Aa.step_alloc (jD _) _)).later J,fun M hM=>(HS.out M hM).later (b.trans (bA.trans J)),W,rfl,h3,X.imp id (fun e=>by omega)⟩
 go_wp2_with fail
 go_region_law
  ((refine step_append_lies _ rfl (.tmp 37) (.tmp 45) 39 rfl base 59 i0 (.pointer none) 1 8 Tryz.underlying39 hi N O P rfl ji r n A (by simp [Act.eval]) (World.ownsRow.alloc (World.ownsRow.alloc V.out _) _) ⟨m.heap.size + 1, 0, none⟩ 1 1 [.pointer (some ⟨m.heap.size, 0, none⟩)] (by simp [Act.eval]) rfl (Fz _ _ _ _ js) (by intro u hu; simp at hu; subst hu; rfl) ji (by unfold maxLen; omega) jo (by simp; omega) _ rfl ?_
    intro g cap z o l y ad
    have W := IW l
    have F : Ab r.ownBlock.toList m z := j9
    have x6 := F.cell U D
    have T := F.frozen U D n6
    have H3 := jp o
    have G := jp y
    clear o l y))
 all_goals
  have I:=HX _ jq _ _ _ W H3.out G.out;clear HX H3 G;go_wp2;go_ret;exact I.out
theorem Q5 (p:Nat) (c:Ac) (w:jj) (l:¬c.OK) (b:c.Fit) (r:w.cell? ⟨p,0,none⟩=some (.int .i64 c.alg)) (s:w.cell? ⟨p,1,none⟩=some (.int .i64 c.slots)) (t:w.cell? ⟨p,2,none⟩=some (.int .i64 c.points)) (u:w.cell? ⟨p,3,none⟩=some (.int .i64 c.probes)) (v:w.cell? ⟨p,4,none⟩=some (.string c.key)) (y:w.cell? ⟨p,5,none⟩=some (.int .i64 c.formats)):
  Calls Tryz.prog 32 #[.pointer (some ⟨p,0,none⟩)] w fun e w'=>e= .returned (.bool true)/\Aa w w':=by
 have d:=fun m=>WY c m l
 have f:=fun m=>Mb c m b
 have z:=jp l;obtain ⟨alg,n,i,k,key,g⟩:=c;simp only [Ac.cells] at *;clear l b;go_enter Tryz.func32,Tryz.ntmps32;go_wp2_with fail;refine (d _).mono ?_;rintro e B ⟨rfl,a⟩;have C:=a.cell r;have D:=a.cell s;have E:=a.cell t;have F:=a.cell u;have G:=a.cell v;have H:=a.cell y;clear d r s t u v y;go_wp2_with fail;refine (f _).mono ?_;rintro e A ⟨x,rfl,o,hx⟩;have q:Aa w A:=a.trans o;cases x
 .clear f hx;go_wp2;go_ret;exact ⟨rfl,q⟩
 .exact absurd (hx.1 rfl) z.out
def Yj (a:Aw) (p s:Nat) (e:Ending) (w':jj):Prop:=e= .returned (.bool true)/\∃x,Ao a s x w'/\x.p=p
theorem Y9 (f:Aw) (s:Nat) (x:WG) (w:jj) (h:Ao f s x w) (F:s<=150000):Calls Tryz.prog 32 #[.pointer (some ⟨x.p,0,none⟩)] w (Yj f x.p (s+1)):=by
 by_cases i:x.c.OK
 .have l:x.vl.ownBlock≠some x.p:=fun e=>by
   have G:1<=x.vl.ownBlock.toList.count x.p:=Ak.1 (by simp [e]);have H:=WG.count x x.p;have I:=DK h.2.2.1 x.p;have J:1<=[x.p].count x.p:=Ak.1 js;omega
  refine (Q4 f.heap.size x.p x.prs.length x.vl _ x.c w i h.2.2.2.2.2.1 (h.1.1 0 _ rfl) (h.1.1 1 _ rfl) (h.1.1 2 _ rfl) (h.1.1 3 _ rfl) (h.1.1 4 _ rfl) (h.1.1 5 _ rfl) (h.1.1 6 _ rfl) (h.1.2 6 (by simp [WG.cells])) h.2.2.2.2.2.2.1 (by have:=h.2.2.2.2.2.2.2.2.2.2.2.1.1;omega) h.2.1.size l).mono ?_
  rintro e w' ⟨rfl,q,a,g,cap,K,L,v,m,n,o,r,t,A,B,C,rfl,d,D⟩
  refine ⟨rfl,_,h.pair v ⟨a,q,x.c,[],0,.slice none 0 0,.pointer none,.slice none 0 0,[],[],[]⟩ ⟨A,AG.new0 (B _ (by simp [Ah.blocks])),Or.inl ⟨rfl,rfl,rfl⟩,AH.nil,i,⟨js,js,fun _=>rfl⟩,Or.inl ⟨rfl,rfl⟩,World.ownsRow_nil _ _ _ _,js,fun y E=>by cases E⟩ (by simp [Ah.blocks,Value.ownBlock,t,Bh]) (fun j u=>?_) ⟨js,rfl,fun k z q h=>by simp at h⟩ C d D,rfl⟩
  simp [Ah.blocks,Value.ownBlock,Bh] at u
  rcases u with rfl|rfl
  .exact ⟨o,r⟩
  .exact ⟨m,n⟩
 .refine (Q5 x.p x.c w i h.2.2.2.2.2.1 (h.1.1 0 _ rfl) (h.1.1 1 _ rfl) (h.1.1 2 _ rfl) (h.1.1 3 _ rfl) (h.1.1 4 _ rfl) (h.1.1 5 _ rfl)).mono ?_;rintro e w' ⟨rfl,b⟩;exact ⟨rfl,x,(h.later b).up jo,rfl⟩
theorem Tryz.infoStrs:(Tryz.prog.info? 36).map (fun i=>(i.zero,i.size,i.bytes))=some (some (.slice none 0 0),1,24):=by kernel_rfl
theorem Sn (b:jj) (a:Option Addr) (L cap:Nat):
  (Instr.slice 36 (.slice a L cap) none (some (.int .i64 cap)) none).run Tryz.prog b= .ok (.slice a cap cap) b:=by
 rw [run_slice_h (P:=Tryz.prog) b 36 a L cap (by kernel_rfl) .i64 _ jo jo];have c:(sizeOf (Tryz.prog.elem 36)).run Tryz.prog b= .ok 1 b:=by kernel_rfl
 rw [c];have d:a.map (·.add 0)=a:=by cases a <;>rfl
 simp only [Result.andThen,sliced,Int.toNat_natCast,Nat.zero_mul,d,ite_self,Nat.sub_zero]
theorem XV {w:jj} {base g n:Nat} {a:Array Value} {e:TypeId} {T:List ByteArray} (c:w.heap[g]?=some (.cells a e (0,0))) (d:base<=g) (b:T.length=n) (f:n<=maxLen):
  (w.setRow g (T.map Value.string).toArray).ownsRow base e 1 (sl g n n) n (T.map Value.string):=by
 refine ⟨by simp [b],Or.inr ⟨g,n,(T.map Value.string).toArray,rfl,d,setRow_heap w g _ _ e _ c,jH _,f,by simp [b],?_⟩⟩;rw [jR (by simp [b])]
theorem YK {a:Array Value} {T:List ByteArray} (b:a.size=T.length):a.toList.take 0++T.map Value.string++a.toList.drop (0+(T.map Value.string).length)=T.map Value.string:=by
 rw [List.drop_of_length_le jx];simp
def TC (base p n:Nat) (f g:ju) (l m L:List Value) (o:Nat) (T:List ByteArray) (w:jj) (e:Ending) (w':jj):Prop:=e= .returned (.tuple #[])/\∃(d b i c k:Nat) (a:jj),Aa w a/\w.heap.size<=d/\d<a.heap.size/\a.ownsRow base 9 1 (sl d T.length T.length) T.length (T.map Value.string)/\
 Ab (p::(f.ownBlock.toList++g.ownBlock.toList)) a w'/\Cz p ((L.set 8 (sl b (n+1) i)).set 9 (sl c (n+1) k)) w'/\
 w'.ownsRow base 36 1 (sl b (n+1) i) (n+1) (l++[sl o T.length T.length])/\w'.ownsRow base 36 1 (sl c (n+1) k) (n+1) (m++[sl d T.length T.length])/\
 (f.ownBlock=some b\/a.heap.size<=b)/\(g.ownBlock=some c\/a.heap.size<=c)/\b≠c
theorem Re (base p n:Nat) (A m:ju) (xs ys L:List Value) (B:Nat) (T:List ByteArray) (w:jj) (S:Cz p L w) (I:L[8]?=some A) (J:L[9]?=some m) (W:w.ownsRow base 36 1 A n xs) (X:w.ownsRow base 36 1 m n ys) (hn:n<=200000) (hb:base<=w.heap.size)
  (Y:A.ownBlock≠some p) (K:m.ownBlock≠some p) (Z:∀g,A.ownBlock=some g->m.ownBlock≠some g) (hT:w.ownsRow base 9 1 (sl B T.length T.length) T.length (T.map Value.string)) (a4:T.length<=65536):
  Calls Tryz.prog 65 #[.pointer (some ⟨p,0,none⟩),sl B T.length T.length] w (TC base p n A m xs ys L B T w):=by
 obtain ⟨i0,hi,ao,aa,ap⟩:=info_parts Tryz.infoStr;obtain ⟨i1,hj,ab,ac,ad⟩:=info_parts Tryz.infoStrs;have aq:=fun wx=>Sn wx (some ⟨B,0,none⟩) T.length T.length
 have c8:=S.1 8 A I;have c9:=S.1 9 m J;have f8:=S.2 8 (List.getElem?_eq_some_iff.1 I).1;have f9:=S.2 9 (List.getElem?_eq_some_iff.1 J).1;have ay:=jF c8;have HL:=jp S;have HA:=jp W;have HB:=jp X;have HT:=jp hT;have ae:=jp Z;clear S W X hT Z I J;unfold sl at *;go_enter Tryz.func65,Tryz.ntmps65;go_wp2_with (first|(at_make;refine wpList_make_full _ rfl _ _ 36 rfl base 9 i0 (.string ByteArray.empty) 1 Tryz.underlying36 hi ao aa _ _ _ _ T.length rfl rfl ?b0 ?b1 ?b2 ?b3 ?b4 ?_))
 case b0=>rfl
 case b1=>first|rfl|omega
 case b2=>first|omega|(rw [ap];omega)
 case b3=>first|(unfold maxLen;omega)|exact hb
 try (case b4=>exact hb)
 intro U q d;have M:Aa w U:=(jD _).grown d (fun g a=>by cases a)
 obtain ⟨o,r,af⟩:∃o:Array Value,U.heap[w.heap.size]?=some (.cells o 9 (0,0))/\o.size=T.length:=by
  rcases q.2 with ⟨h',_⟩|⟨g',az,o,h',_,a,_,_,hs,_⟩
  .simp at h'
  .simp only [Value.slice.injEq,Option.some.injEq,Addr.mk.injEq,and_true,true_and] at h';obtain ⟨rfl,rfl⟩:=h';exact ⟨o,a,by simpa using hs⟩
 have ag:Hid (∀j v,(T.map Value.string)[j]?=some v->U.cell? ((⟨B,0,none⟩:Addr).add j)=some v):=fun j v hv=>by
  have ah:(⟨B,0,none⟩:Addr).add j=⟨B,j,none⟩:=by unfold Addr.add;split <;>simp_all
  rw [ah];have hj:j<T.length:=by have:=(List.getElem?_eq_some_iff.1 hv).1;simpa using this
  exact (M.cell ((World.ownsRow.cellAt HT.out j jo).trans hv))
 clear q d aq;have ai:(Tryz.prog.info? 9).map (·.size)=some 1:=by rw [hi];simp [aa]
 have aj:=run_copy_row (P:=Tryz.prog) U 36 36 3 9 w.heap.size 0 T.length T.length ⟨B,0,none⟩ T.length T.length o 9 (T.map Value.string) Tryz.underlying36 ai r js ag.out jx (by intro v hv;obtain ⟨t, -,rfl⟩:=List.mem_map.1 hv;rfl);rw [YK af] at aj;have HC:=jp (XV (base:=base) (T:=T) r hb rfl (by unfold maxLen;omega));have b:Aa w (U.setRow w.heap.size (T.map Value.string).toArray):=Aa.of_below (below_setRow M.below (jH _) _) (jH _);generalize U.setRow w.heap.size (T.map Value.string).toArray=C at *;have x8:=b.cell c8;have x9:=b.cell c9;have y8:=b.frozen c8 f8;have y9:=b.frozen c9 f9;have ak:=jp (HL.out.later b);have al:=jp (BG HA.out b);have N:=jp (BG HB.out b);have a0:=b.size;have a5:p<C.heap.size:=jF x8;have am:w.heap.size<C.heap.size:=(World.ownsRow.lt HC.out _ rfl).2;clear r af M ag c8 c9 f8 f9 HL HA HB;go_wp2_with (first|(at_builtin;refine wpList_append_lies _ rfl _ _ 40 rfl base 36 i1 (.slice none 0 0) 1 24 Tryz.underlying40 hj ab ac ad rfl ji _ n xs rfl ?p1 ⟨C.heap.size,0,none⟩ 1 1 [.slice (some ⟨B,0,none⟩) T.length T.length] rfl rfl ?d1 ?d2 ji ?d3 ?d4 ?d5 _ rfl ?_))
 case p1=>exact World.ownsRow.alloc al.out _
 try (case d1=>exact Fz _ _ _ _ js)
 case d2=>first|rfl|(intro u hu;simp at hu;subst hu;rfl)
 case d3=>unfold maxLen;omega
 case d4=>omega
 case d5=>first|omega|(simp;omega)
 intro c ca D s f i E;have b3:Ab A.ownBlock.toList C D:=(Ab.of_bel (Aa.step_alloc (jD C) _)).trans (IW f);have x:p∉A.ownBlock.toList:=fun h=>Y (by simpa using h)
 have O:p∉m.ownBlock.toList:=fun h=>K (by simpa using h)
 have z8:=b3.cell x8 x;have z9:=b3.cell x9 x;have u8:=b3.frozen x8 x y8;have u9:=b3.frozen x9 x y9;have F:∀g,m.ownBlock=some g->g<C.heap.size:=fun g a=>(World.ownsRow.lt N.out g a).2
 have G:c≠p:=by
  rcases i with e|e
  .exact fun Q=>Y (by rw [e,Q])
  .omega
 have y:m.ownBlock≠some c:=by
  rcases i with e|e
  .exact ae.out c e
  .intro Q;have:=F c Q;omega
 have c4:Ab [p] D (D.setCell ⟨p,8,none⟩ (.slice (some ⟨c,0,none⟩) (n+1) ca)):=(Ab.refl _ _).set js _;have ar:=jp (AY (AY N.out b3 (fun g a e=>ae.out g (by simpa using e) a)) c4 (fun g a e=>K (by rw [a,jP.1 e])))
 have au := jp (AY s c4 (fun g a e => G (by
   have : c = g := by simpa [Value.ownBlock] using a
   rw [this, jP.1 e])))
 have av:=jp ((ak.out.but b3 x).set 8 (.slice (some ⟨c,0,none⟩) (n+1) ca));have aw:Hid (Ab (p::(A.ownBlock.toList++m.ownBlock.toList)) C (D.setCell ⟨p,8,none⟩ (.slice (some ⟨c,0,none⟩) (n+1) ca))):=(b3.mono (fun k hk=>Or.inl (jW _ (jg _ hk)))).put (Or.inl js) _;have ax:Hid (A.ownBlock=some c\/C.heap.size<=c):=i.imp id (fun e=>by omega);have a6:=b3.size;have a1:c<D.heap.size:=E;have a2:∀g,m.ownBlock=some g->g<D.heap.size:=fun g a=>by have:=F g a;omega
 clear s f i E al N ak;go_wp2_with (first|(at_builtin;refine wpList_append_lies _ rfl _ _ 40 rfl base 36 i1 (.slice none 0 0) 1 24 Tryz.underlying40 hj ab ac ad rfl ji _ n ys rfl ?p1 ⟨D.heap.size,0,none⟩ 1 1 [.slice (some ⟨w.heap.size,0,none⟩) T.length T.length] rfl rfl ?d1 ?d2 ji ?d3 ?d4 ?d5 _ rfl ?_))
 case p1=>exact World.ownsRow.alloc ar.out _
 try (case d1=>exact Fz _ _ _ _ js)
 case d2=>first|rfl|(intro u hu;simp at hu;subst hu;rfl)
 case d3=>unfold maxLen;omega
 case d4=>omega
 case d5=>first|omega|(simp;omega)
 intro V cb w5 z l H a3;have b5:Ab m.ownBlock.toList (D.setCell ⟨p,8,none⟩ (.slice (some ⟨c,0,none⟩) (n+1) ca)) w5:=(Ab.of_bel (Aa.step_alloc (jD _) _)).trans (IW l);have t9:=b5.cell ((Ad js).trans z9) O;have v9:=b5.frozen ((Ad js).trans z9) O (by rw [Ag];exact u9);have R:Hid (m.ownBlock=some V\/D.heap.size<=V):=H.imp id (fun e=>by first|omega|(rw [e];simp));have H5:=jp z;clear z l H;go_wp2;go_end0
 have an:V≠p:=by
  rcases R.out with e|e
  .exact fun Q=>K (by rw [e,Q])
  .omega
 have c6:Ab [p] w5 (w5.setCell ⟨p,9,none⟩ (.slice (some ⟨V,0,none⟩) (n+1) cb)):=(Ab.refl _ _).set js _
 refine ⟨rfl, w.heap.size, c, ca, V, cb, C, b, jH _, am, HC.out, (aw.out.trans (b5.mono (fun k hk => Or.inl (jW _ (jU _ hk))))).put (Or.inl js) _, (av.out.but b5 O).set 9 _, AY (AY au.out b5 (fun g a e => y (by
     have : c = g := by simpa [sl, Value.ownBlock] using a
     rw [this]; simpa using e))) c6 (fun g a e => G (by
     have : c = g := by simpa [sl, Value.ownBlock] using a
     rw [this, jP.1 e])), AY H5.out c6 (fun g a e => an (by
     have : V = g := by simpa [sl, Value.ownBlock] using a
     rw [this, jP.1 e])), ax.out, R.out.imp id (fun e => by omega), ?_⟩
 rcases R.out with e|e
 .exact fun Q=>y (by rw [e,Q])
 .omega
theorem Yp (p:Nat) (w:jj):Calls Tryz.prog 65 #[.pointer (some ⟨p,0,none⟩),.slice none 0 0] w fun e w'=>e= .returned (.tuple #[])/\w=w':=by
 go_enter Tryz.func65,Tryz.ntmps65;go_wp2;go_end0;exact ⟨rfl,rfl⟩
def Mp (b:Aw) (s:Nat) (x:WG) (v:ju) (T:List ByteArray) (e:Ending) (w':jj):Prop:=e= .returned (.tuple #[])/\∃a,Ao b (s+1) a w'/\a.p=x.p/\a.prs=x.prs/\Ap w' v T.length (T.map Value.string)
theorem Ru (f:Aw) (s:Nat) (x:WG) (b:Nat) (T:List ByteArray) (q w:jj) (h:Ao f s x q) (a:Aa q w) (D:FC q.heap.size w (sl b T.length T.length) T) (i:T.length<=65536) (U:s<=150000):
  Calls Tryz.prog 65 #[.pointer (some ⟨x.p,0,none⟩),sl b T.length T.length] w (Mp f s x (sl b T.length T.length) T):=by
 have n:=h.later a;have J:=h.2.1.size;have r:=DK h.2.2.1;have t:=WG.count x;have k:w.ownsRow f.heap.size 9 1 (sl b T.length T.length) T.length (T.map Value.string):=World.ownsRow.mono D J;have K:1<=[x.p].count x.p:=Ak.1 js;refine (Re f.heap.size x.p x.lss.length x.vls x.vlw (x.lss.map fun l=>sl l.g1 l.T.length l.T.length) (x.lss.map fun l=>sl l.g2 l.T.length l.T.length) x.cells b T w n.1 rfl rfl n.2.2.2.2.2.2.2.2.2.1 n.2.2.2.2.2.2.2.2.2.2.1 (by have:=h.2.2.2.2.2.2.2.2.2.2.2.1.2.2;omega) n.2.1.size (fun e=>?_) (fun e=>?_) (fun g e L=>?_) k i).mono ?_
 .have E:1<=x.vls.ownBlock.toList.count x.p:=Ak.1 (by simp [e]);have F:=t x.p;have G:=r x.p;omega
 .have E:1<=x.vlw.ownBlock.toList.count x.p:=Ak.1 (by simp [e]);have F:=t x.p;have G:=r x.p;omega
 .have E:1<=x.vls.ownBlock.toList.count g:=Ak.1 (by simp [e]);have V:1<=x.vlw.ownBlock.toList.count g:=Ak.1 (by simp [L]);have F:=t g;have G:=r g;omega
 rintro e w' ⟨rfl,o,W,X,Y,Z,M,u,N,m,c,O,P,v,y,z,A,B⟩;have C:=World.ownsRow.lt D b rfl;have Q:=u.size;have R:=a.size;have S:GA.At f.heap.size ⟨b,o,T⟩ M:=⟨BG k u,c,i⟩
 have H := h.keep (a.trans u) ⟨b, o, T⟩ S (by show b ≠ o; omega) (fun j I => by
   simp only [ja, List.not_mem_nil, or_false] at I
   rcases I with rfl | rfl
   . exact ⟨C.1, jo⟩
   . exact ⟨jo, m⟩) O P v y z A B
 refine ⟨rfl,_,H,rfl,rfl,?_⟩;have d:=H.2.2.2.2.2.2.2.2.2.2.2.2.1 ⟨b,o,T⟩ js;exact Ap.of_owns d.1
end Go.Proofs.YtpapdkhjdelfcaaGreat
