import Derived.Test.YtpapdkhjdelfcaaGreatMAO
import Derived.Deep.RegionHeld3
namespace Go.Proofs.YtpapdkhjdelfcaaGreat
open Go.RowKit
set_option maxRecDepth 100000
set_option maxHeartbeats 4000000
theorem Tryz.uTC:Tryz.prog.underlying 30=some (.struct (Tryz.prog.fieldsOf 30)):=by kernel_rfl
theorem Tryz.sTC:Tryz.prog.stoodInHeld 30=false:=by kernel_rfl
def JI (c d:Ac):Bool:=!(c.alg==d.alg && (c.slots==d.slots && (c.points==d.points && (c.probes==d.probes && (c.key.toList==d.key.toList && c.formats==d.formats)))))
theorem QO (c d:Ac) (w:jj):(binOp .neq 30 (.agg #[.int .i64 c.alg,.int .i64 c.slots,.int .i64 c.points,.int .i64 c.probes,.string c.key,.int .i64 c.formats]) (.agg #[.int .i64 d.alg,.int .i64 d.slots,.int .i64 d.points,.int .i64 d.probes,.string d.key,.int .i64 d.formats])).run Tryz.prog w= .ok (.bool (JI c d)) w:=by
 rw [run_neq_struct,run_equalIn_struct w 9999 _ _ _ Tryz.uTC Tryz.sTC];unfold JI;simp [go_sem];by_cases a:c.alg=d.alg <;>by_cases b:c.slots=d.slots <;>by_cases f:c.points=d.points <;>by_cases g:c.probes=d.probes <;>by_cases i:c.key.toList=d.key.toList <;>by_cases k:c.formats=d.formats <;>simp [a,b,f,g,i,k]
theorem Ts (c d:Ac):JI c d=true↔c≠d:=by
 obtain ⟨f,g,i,k,a,l⟩:=c;obtain ⟨m,n,o,p,b,q⟩:=d;unfold JI;simp only [Bool.not_eq_true',Bool.and_eq_false_iff,jI,ne_eq,Ac.mk.injEq];have r:a.toList=b.toList↔a=b:=⟨fun h=>toList_inj h,fun h=>by rw [h]⟩;rw [r];constructor
 .intro h e;obtain ⟨rfl,rfl,rfl,rfl,rfl,rfl⟩:=e;simp at h
 .intro h;by_cases s:f=m <;>by_cases t:g=n <;>by_cases u:i=o <;>by_cases v:k=p <;>by_cases w:a=b <;>by_cases x:l=q <;>simp_all
def FN (a:Option Addr) (cap n:Nat):Option Addr:=if cap=n then a else a.map (·.add (n * 2))
theorem Nd (a:jj) (b:Option Addr) (L cap n:Nat) (h:n<=L):
  (Instr.slice 46 (.slice b L cap) (some (.int .i64 n)) none none).run Tryz.prog a= .ok (.slice (FN b cap n) (L - n) (cap - n)) a:=by
 rw [run_slice_any (P:=Tryz.prog) a 46 b L cap (by kernel_rfl)];have c:(sizeOf (Tryz.prog.elem 46)).run Tryz.prog a= .ok 2 a:=by kernel_rfl
 have d:(Instr.sliceBounds true L cap (some (.int .i64 n)) none none).run Tryz.prog a= .ok (n,L,cap) a:=by
  simp [Instr.sliceBounds,run_sliceBound,go_sem,h]
 rw [d];simp only [Result.andThen,c,sliced,FN]
theorem YA (a:jj) (b:Option Addr) (L cap n m:Nat) (h:n+m<=L) (f:L<=cap):
  (Instr.slice 46 (.slice b L cap) (some (.int .i64 n)) (some (.int .i64 ((L:Int) - (m:Int)))) none).run Tryz.prog a= .ok (.slice (FN b cap n) (L - m - n) (cap - n)) a:=by
 rw [run_slice_lh (P:=Tryz.prog) a 46 b L cap (by kernel_rfl) .i64 .i64 _ _ jo jo jo];have c:((L:Int) - (m:Int)).toNat=L - m:=jo
 have d:(sizeOf (Tryz.prog.elem 46)).run Tryz.prog a= .ok 2 a:=by kernel_rfl
 rw [d];simp only [Result.andThen,sliced,FN,Int.toNat_natCast,c]
theorem Bv.cut {w:jj} {f:Option Addr} {cap n m:Nat} {E:List EI} (h:Bv w (.slice f E.length cap) E) (o:n+m<=E.length) (u:E.length<=cap):Bv w (.slice (FN f cap n) (E.length - m - n) (cap - n)) ((E.drop n).take (E.length - m - n)):=by
 obtain ⟨p,i,k,b⟩:=h;simp only [Value.slice.injEq] at k;obtain ⟨rfl, -,rfl⟩:=k;have c:((E.drop n).take (E.length - m - n)).length=E.length - m - n:=jx
 refine ⟨_,_,by rw [c],fun j l=>?_⟩;rw [c] at l;obtain ⟨g,a,q,r,s⟩:=b (n+j) jo;have d:¬cap=n:=jo
 have e:((E.drop n).take (E.length - m - n))[j]'(by rw [c];exact l)=E[n+j]'jo:=js
 rw [e];refine ⟨g,a+n * 2,?_,?_,?_⟩
 .rw [FN,if_neg d,q];simp only [Option.map_some,Addr.add];split
  .rename_i t;rw [t];rfl
  .rfl
 .rw [show a+n * 2+j * 2=a+(n+j) * 2 by omega];exact r
 .rw [show a+n * 2+j * 2+1=a+(n+j) * 2+1 by omega];exact s
theorem Bv.from {w:jj} {a:Option Addr} {cap n:Nat} {E:List EI} (h:Bv w (.slice a E.length cap) E) (b:n<=E.length) (c:E.length<=cap):Bv w (.slice (FN a cap n) (E.length - n) (cap - n)) (E.drop n):=by
 have:=h.cut (n:=n) (m:=0) jo c;have e:(E.drop n).take (E.length - 0 - n)=E.drop n:=jR (by rw [jh];omega);rw [e] at this;simpa using this
def Zga (a b:Ac):Decidable (a=b):=
 decidable_of_iff (a.alg=b.alg/\a.slots=b.slots/\a.points=b.points/\a.probes=b.probes/\a.key.data=b.key.data/\a.formats=b.formats)
  ⟨fun ⟨c,d,f,g,i,l⟩=>by cases a;cases b;cases c;cases d;cases f;cases g;cases l;exact congrArg (fun k=>Ac.mk _ _ _ _ k _) (ByteArray.ext i),fun h=>by subst h;simp⟩
def DN (a b:jy):List UInt8×Int:=match Bj a,Bj b with
 |some (_,g1,c1,B1,E1),some (_,g2,c2,B2,E2)=>haveI:=Zga c1 c2;if c1=c2 then
   (G6 g1 (G9 g1 c1 B1 E1).toNat g2 B2 (Cu (E1.map (CT B1 B2)) E2) (EE ((E1.map (CT B1 B2)).drop (Cu (E1.map (CT B1 B2)) E2)) (E2.drop (Cu (E1.map (CT B1 B2)) E2))) ((E2.drop (Cu (E1.map (CT B1 B2)) E2)).take (E2.length - EE ((E1.map (CT B1 B2)).drop (Cu (E1.map (CT B1 B2)) E2)) (E2.drop (Cu (E1.map (CT B1 B2)) E2)) - Cu (E1.map (CT B1 B2)) E2)) c2.alg,0)
  else ([],9)
 |_,_=>([],9)
def Ff (w:jj) (x:List UInt8×Int) (e:Ending) (w':jj):Prop:=e= .returned (.tuple #[.string (Ai x.1),.int .i64 x.2])/\Aa w w'
theorem Vf (S T:jt) (w:jj) (h1:S.size<=1099511627776) (h2:T.size<=1099511627776):
  Calls Tryz.prog 105 #[.string S,.string T] w (Ff w (DN S.data.toList T.data.toList)):=by
 have l:=fun o=>JL S o h1
 have A:=fun o=>JL T o h2
 have ap:Hid (DN S.data.toList T.data.toList=DN S.data.toList T.data.toList):=rfl;rcases hi1:Bj S.data.toList with _|⟨f1,r,c,B1,E1⟩
 .rw [hi1] at l;unfold FH CU at l;have HF:Hid (DN S.data.toList T.data.toList=([],9)):=by show _=_;unfold DN;rw [hi1]
  rw [HF.out];clear ap;go_enter Tryz.func105,Tryz.ntmps105;go_wp2_with fail;refine (l _).mono ?_;rintro e w1 ⟨B,rfl⟩;go_wp2;go_ret2;exact ⟨rfl,B.step_alloc _⟩
 rw [hi1] at l;have J:=Hp hi1;rcases hi2:Bj T.data.toList with _|⟨f2,Q,f,U,b⟩
 .rw [hi2] at A;unfold FH CU at A;unfold FH D8 at l;have HF:Hid (DN S.data.toList T.data.toList=([],9)):=by show _=_;unfold DN;rw [hi1,hi2]
  rw [HF.out];clear ap J;go_enter Tryz.func105,Tryz.ntmps105;go_wp2_with fail;refine (l _).mono ?_;rintro e w1 ⟨B,bj,bk,rfl,i,k⟩;obtain ⟨aq,ar,rfl⟩:=B8 i;obtain ⟨au,av,rfl⟩:=B8 k;have ad:=jp (B.step_alloc (.cells #[.int .i64 (f1:Int),.int .i64 (r:Int),.int .i64 c.alg,.int .i64 c.slots,.int .i64 c.points,.int .i64 c.probes,.string c.key,.int .i64 c.formats,.slice aq B1.length ar,.slice au E1.length av] 135));clear i k B;go_wp2_with fail;refine (A _).mono ?_;rintro e w2 ⟨s,rfl⟩;have C:=jp ((ad.out.trans s).step_alloc (.cells #[.int .i64 0,.int .i64 0,.int .i64 0,.int .i64 0,.int .i64 0,.int .i64 0,.string ⟨#[]⟩,.int .i64 0,.slice none 0 0,.slice none 0 0] 135));clear s;go_wp2;go_ret2;exact ⟨rfl,C.out⟩
 rw [hi2] at A;have V:=Hp hi2;unfold FH D8 at l A;clear ap;have b0:=J.right.1.2;have b3:=V.right.1.2;have bl:=J.len;have b4:=V.len;obtain ⟨O,ae⟩:∃O,O=E1.map (CT B1 U):=⟨_,rfl⟩;have b5:O.length<=255:=by rw [ae,je];exact bl
 obtain ⟨n,af⟩:∃n,n=Cu O b:=⟨_,rfl⟩;have hn:=Mf O b;rw [<-af] at hn;obtain ⟨a7,a8⟩:=hn;obtain ⟨m,ag⟩:∃m,m=EE (O.drop n) (b.drop n):=⟨_,rfl⟩;have hm:=(Ye (O.drop n) (b.drop n)).2;rw [<-ag,jh] at hm;obtain ⟨R,ah⟩:∃R,R=(G9 r c B1 E1).toNat:=⟨_,rfl⟩;have a9:R<4294967296:=by rw [ah];exact (G9 r c B1 E1).isLt
 have b6:((b.drop n).take (b.length - m - n)).length=b.length - m - n:=jx
 have aw:Hid (c=f->DN S.data.toList T.data.toList=(G6 r R Q U n m ((b.drop n).take (b.length - m - n)) f.alg,0)):=fun h=>by
  unfold DN;rw [hi1,hi2,ah,ag,af,ae];exact if_pos h
 have ax:Hid (c≠f->DN S.data.toList T.data.toList=([],9)):=fun h=>by
  unfold DN;rw [hi1,hi2];exact if_neg h
 have G:=fun vP vE o h1 h2=>On f1 r c B1 E1 vP vE o jo J.tok h1 J.good.1 h2 (fun e he=>(J.ents e he).1) jo
 have W:=fun q vP vE v2 o hT hP hE bm=>OX q c vP vE v2 B1 U E1 o hT hP hE bm (by have:=V.good.1.1;omega) jo
 rw [<-ae] at W;have ay:=fun vO vE o h h'=>RB O b vO vE o h h' jo jo
 rw [<-af] at ay;have az:=fun x y o h h'=>Wm (O.drop n) (b.drop n) x y o h h' (by rw [jh];omega) (by rw [jh];omega)
 rw [<-ag] at az;have ba:=fun vP vM o hP hM=>Yl r R Q U n m ((b.drop n).take (b.length - m - n)) f.alg vP vM o jo a9 jo jo jo hP V.good.1 hM (fun e he=>(V.ents e (List.mem_of_mem_drop (List.mem_of_mem_take he))).1) jo
 unfold Hb at ba;unfold D8 KY at G;rw [<-ah] at G;generalize G6 r R Q U n m ((b.drop n).take (b.length - m - n)) f.alg=PB at *;generalize bb:(b.drop n).take (b.length - m - n)=M at *;have bv:=QO c f;have H:=Ts c f;have hcut:∀(w:jj) (ao:Option Addr) (cap:Nat),Bv w (.slice ao b.length cap) b->b.length<=cap->Bv w (.slice (FN ao cap n) (b.length - m - n) (cap - n)) M:=fun w ao cap h hc=>by rw [<-bb];exact h.cut jo hc
 clear hi1 hi2 ah ag af bb ae;generalize JI c f=cn at *;go_enter Tryz.func105,Tryz.ntmps105;go_wp2_with fail;refine (l _).mono ?_;rintro e w1 ⟨B,bj,bk,rfl,i,k⟩;obtain ⟨aq,ar,rfl⟩:=B8 i;obtain ⟨au,av,rfl⟩:=B8 k;have ad:=jp B;have t:=jp (AJ.pool i);have u:=jp (AS.ents k);clear i k B l;go_wp2_with fail;refine (A _).mono ?_;rintro e w2 ⟨s,b7,ca,rfl,X,I⟩;obtain ⟨K,L,rfl⟩:=B8 X;obtain ⟨N,v,rfl⟩:=B8 I
 have D:b.length<=v:=by
  rcases I.2 with ⟨r,Q⟩|⟨g,cap,bn,r,_,_,g3,_⟩
  .omega
  .simp only [Value.slice.injEq] at r;omega
 have a:=jp ((Ae.new w1 135 #[.int .i64 (f1:Int),.int .i64 (r:Int),.int .i64 c.alg,.int .i64 c.slots,.int .i64 c.points,.int .i64 c.probes,.string c.key,.int .i64 c.formats,.slice aq B1.length ar,.slice au E1.length av]).bel s);have C:=jp ((ad.out.step_alloc _).trans s);replace t:=jp ((t.out.later ((jD w1).step_alloc _)).later s);replace u:=jp ((u.out.later ((jD w1).step_alloc _)).later s);have P:=jp (AJ.pool X);have E:=jp (AS.ents I);have bo:w1.heap.size<w2.heap.size:=a.out.lt;clear X I s A ad;have A2:=a.out;have p2:=A2.cell 2 rfl;have p3:=A2.cell 3 rfl;have p4:=A2.cell 4 rfl;have p5:=A2.cell 5 rfl;have p6:=A2.cell 6 rfl;have p7:=A2.cell 7 rfl;clear A2;cases cn
 rotate_left
 .have hF:=ax.out (H.1 js);replace hF:=jp hF;clear H aw ax;go_wp2;go_ret2;rw [hF.out];exact ⟨rfl,C.out.step_alloc _⟩
 have hF:=aw.out (Classical.byContradiction fun h=>by have:=H.2 h;simp at this);replace hF:=jp hF;obtain ⟨W2,ai⟩:∃W2,W2=w2.alloc (.cells #[.int .i64 (f2:Int),.int .i64 (Q:Int),.int .i64 f.alg,.int .i64 f.slots,.int .i64 f.points,.int .i64 f.probes,.string f.key,.int .i64 f.formats,.slice K U.length L,.slice N b.length v] 135):=⟨_,rfl⟩;have F:Aa w2 W2:=by rw [ai];exact (jD w2).step_alloc _
 have bc:Hid (Ae w2.heap.size 135 #[.int .i64 (f2:Int),.int .i64 (Q:Int),.int .i64 f.alg,.int .i64 f.slots,.int .i64 f.points,.int .i64 f.probes,.string f.key,.int .i64 f.formats,.slice K U.length L,.slice N b.length v] W2):=by show Ae _ _ _ W2;rw [ai];exact Ae.new _ _ _
 replace a:=jp (a.out.bel F);replace C:=jp (C.out.trans F);replace t:=jp (t.out.later F);replace u:=jp (u.out.later F);replace P:=jp (P.out.later F);replace E:=jp (E.out.later F);have H3:=jp (W w1.heap.size _ _ _ W2 ⟨⟨a.out.cell 2 rfl,a.out.cell 3 rfl,a.out.cell 4 rfl,a.out.cell 5 rfl,a.out.cell 6 rfl,a.out.cell 7 rfl⟩,a.out.cell 8 rfl,a.out.cell 9 rfl⟩ t.out u.out P.out);clear W F H aw ax;go_wp2_with fail;rw [<-ai];clear ai p2 p3 p4 p5 p6 p7;refine H3.out.mono ?_;rintro e d ⟨vO,rfl,z,aj⟩;obtain ⟨aO,kO,rfl⟩:=B8 aj
 have a0:O.length<=kO:=by
  rcases aj.2 with ⟨r,Q⟩|⟨g,cap,bn,r,_,_,g3,_⟩
  .omega
  .simp only [Value.slice.injEq] at r;omega
 have HA:=jp (a.out.bel z);have ak:=jp (bc.out.bel z);have bp:=jp (C.out.trans z);replace t:=jp (t.out.later z);replace u:=jp (u.out.later z);replace P:=jp (P.out.later z);replace E:=jp (E.out.later z);have HO:=jp (AS.ents aj);have bw:w2.heap.size<d.heap.size:=ak.out.lt;have bq:w1.heap.size<d.heap.size:=HA.out.lt;clear aj z H3 a bc C;have Y:=HA.out;have p0:=Y.cell 0 rfl;have p1:=Y.cell 1 rfl;have p2:=Y.cell 2 rfl;have p3:=Y.cell 3 rfl;have p4:=Y.cell 4 rfl;have p5:=Y.cell 5 rfl;have p6:=Y.cell 6 rfl;have p7:=Y.cell 7 rfl;have p8:=Y.cell 8 rfl;have p9:=Y.cell 9 rfl;clear Y;go_wp2_with fail;refine Calls.mono (G _ _ _ ?h1 ?h2) ?_
 case h1=>exact t.out.later jq
 case h2=>exact u.out.later jq
 rintro e w4 ⟨rfl,a1⟩;have C4:=(Ae.new d 193 #[.int .i64 (r:Int),.int .u32 0,.int .i64 0,.slice none 0 0,.int .i64 0,.int .i64 0,.slice none 0 0]).bel a1;have a2:=jp (((jD d).step_alloc _).trans a1);have B4:=ak.out.bel a2.out;have b1:=B4.cell 1 rfl;have b8:=B4.cell 8 rfl;have b9:=B4.cell 9 rfl;have k1:=C4.cell 1 rfl;have k2:=C4.cell 2 rfl;have k3:=C4.cell 3 rfl;have l1:=C4.free 1;have l2:=C4.free 2;have l3:=C4.free 3;have bd:=jp (((C4.set 1 (.int .u32 (R:Int)) (cs':=#[.int .i64 (r:Int),.int .u32 (R:Int),.int .i64 0,.slice none 0 0,.int .i64 0,.int .i64 0,.slice none 0 0]) rfl).set 2 (.int .i64 (Q:Int)) (cs':=#[.int .i64 (r:Int),.int .u32 (R:Int),.int .i64 (Q:Int),.slice none 0 0,.int .i64 0,.int .i64 0,.slice none 0 0]) rfl).set 3 (.slice K U.length L) (cs':=#[.int .i64 (r:Int),.int .u32 (R:Int),.int .i64 (Q:Int),.slice K U.length L,.int .i64 0,.int .i64 0,.slice none 0 0]) rfl);have al:Hid (Aa d (((w4.setCell ⟨d.heap.size,1,none⟩ (.int .u32 (R:Int))).setCell ⟨d.heap.size,2,none⟩ (.int .i64 (Q:Int))).setCell ⟨d.heap.size,3,none⟩ (.slice K U.length L))):=((a2.out.step_set (p:=⟨d.heap.size,1,none⟩) (jH _) _).step_set (p:=⟨d.heap.size,2,none⟩) (jH _) _).step_set (p:=⟨d.heap.size,3,none⟩) (jH _) _;have br:w2.heap.size≠d.heap.size:=jo
 have bx:d.heap.size<w4.heap.size:=C4.lt;clear C4 B4 a1 G p0 p1 p2 p3 p4 p5 p6 p7 p8 p9 a2;go_wp2_with fail;refine Calls.mono (ay _ _ _ ?h1 ?h2) ?_
 case h1=>exact Bv.of (HO.out.later al.out)
 case h2=>exact Bv.of (E.out.later al.out)
 rintro e w5 ⟨rfl,a3⟩;have C5:=bd.out.bel a3;have be:=jp (al.out.trans a3);have m4:=C5.cell 4 rfl;have n4:=C5.free 4;obtain ⟨V5,am⟩:∃V5,V5=w5.setCell ⟨d.heap.size,4,none⟩ (.int .i64 (n:Int)):=⟨_,rfl⟩;have Z:Hid (Ae d.heap.size 193 #[.int .i64 (r:Int),.int .u32 (R:Int),.int .i64 (Q:Int),.slice K U.length L,.int .i64 (n:Int),.int .i64 0,.slice none 0 0] V5):=by show Ae _ _ _ V5;rw [am];exact C5.set 4 _ rfl
 have aa:Hid (Aa d V5):=by show Aa d V5;rw [am];exact be.out.step_set (p:=⟨d.heap.size,4,none⟩) (jH _) _
 clear C5 a3 ay k1 k2 k3 l1 l2 l3 b1 b8 b9 bd al be;go_wp2_with fail;rw [<-am];clear am m4 n4;have bf:=fun o=>Nd o aO O.length kO n a7
 have bg:=fun o=>Nd o N b.length v n a8
 have bz:=fun o=>YA o N b.length v n m jo D
 have a4:=jp (Bv.from (Bv.of (HO.out.later aa.out)) a7 a0);have a5:=jp (Bv.from (Bv.of (E.out.later aa.out)) a8 D);have bs:=jp (hcut d N v (Bv.of E.out) D);have B5:=ak.out.bel aa.out;have b9:=B5.cell 9 rfl;have m4:=Z.out.cell 4 rfl;have m5:=Z.out.cell 5 rfl;have n5:=Z.out.free 5;generalize FN aO kO n=cb at *;generalize FN N v n=bt at *;clear B5 hcut;go_region_with (go_at_call 158;refine Calls.mono (az _ _ _ (by first|exact a4.out|exact a4.out.later (jB (jD _))) (by first|exact a5.out|exact a5.out.later (jB (jD _)))) ?_;rintro e w6 ⟨rfl,ab⟩;have ac:Aa V5 w6:=(by first|exact ab|exact (jB (jD V5)).trans ab);have o5:=ac.cell m5;have q5:=ac.frozen m5 n5;have bh:=jp (Z.out.bel ac);have a6:=jp (aa.out.trans ac);clear ab ac)
 all_goals
  clear m4 m5 n5 b9 az a4 a5 bf bg o5 q5;have C6:=bh.out;have B6:=ak.out.bel a6.out;have b2:=B6.cell 2 rfl;have b9:=B6.cell 9 rfl;have k0:=C6.cell 0 rfl;have k1:=C6.cell 1 rfl;have k2:=C6.cell 2 rfl;have k3:=C6.cell 3 rfl;have k4:=C6.cell 4 rfl;have k5:=C6.cell 5 rfl;have k6:=C6.cell 6 rfl;have l6:=C6.free 6;have an:=jp ((a6.out.step_set (p:=⟨d.heap.size,5,none⟩) (jH _) (.int .i64 (m:Int))).step_set (p:=⟨d.heap.size,6,none⟩) (jH _) (.slice bt (b.length - m - n) (v - n)));have cc:m<=b.length:=jo
  clear C6 B6 bh a6 Z aa;go_wp2_with fail;refine Calls.mono (ba _ _ _ ?h1 ?h2) ?_
  case h1=>exact P.out.later an.out
  case h2=>exact bs.out.later an.out
  rintro e w7 ⟨rfl,bi⟩;have bu:=jp (bp.out.trans (an.out.trans bi));clear bi an;go_wp2;go_ret2;rw [hF.out];exact ⟨rfl,bu.out⟩
structure Xl (b s g:Nat) (B:List BK) (ah bh:Nat) (M:List EI):Prop where
 b32:b<4294967296
 s32:s<4294967296
 g32:g<4294967296
 good:AH B
 a16:ah<65536
 h16:bh<65536
 len:M.length<=65535
 ents:∀e∈M,Jg e
theorem Da {α β:Type} {P:List Bool->Option (α×List Bool)} {Q:α->List Bool->Option (β×List Bool)} {X:jz} {r:β×List Bool} (h:Bo P Q X=some r):∃a Y,P X=some (a,Y)/\Q a Y=some r:=by
 unfold Bo at h;cases b:P X with
 |none=>rw [b] at h;cases h
 |some y=>rw [b] at h;exact ⟨y.1,y.2,rfl,h⟩
theorem PY {alg:Int} {l:jy} {b s g:Nat} {B:List BK} {ah bh:Nat} {M:List EI} (h:Dl alg l=some (b,s,g,B,ah,bh,M)):Xl b s g B ah bh M:=by
 unfold Dl at h;cases p:CQ l with
 |none=>rw [p] at h;cases h
 |some b0=>
  rw [p] at h;have q:JO alg (some (Az b0))=some (b,s,g,B,ah,bh,M):=h;obtain ⟨P,t,R, -, -,k⟩:=FT q;split at k
  .obtain ⟨S,r,T, -,d,u⟩:=FT k;obtain ⟨U,V,W, -, -,m⟩:=FT u;split at m
   .rename_i o;obtain ⟨Z,v,Y4, -,f,w⟩:=FT m;obtain ⟨X5,E5,Y5, -,z,c⟩:=FT w;unfold Iy at c;split at c
    .injection c with c
     obtain ⟨b1,s1,g1⟩:=r;obtain ⟨a1,a2,n⟩:=v;simp only at *;injection c with e1 c
     injection c with e2 c
     injection c with e3 c
     injection c with e4 c
     injection c with e5 c
     injection c with e6 e7
     subst e1 e2 e3 e4 e5 e6 e7;obtain ⟨x1,z1,A,d⟩:=Da d;obtain ⟨x2,z2,C,d⟩:=Da d;obtain ⟨x3,z3,D,d⟩:=Da d;obtain ⟨y1,u1,E,f⟩:=Da f;obtain ⟨y2,u2,F,f⟩:=Da f;obtain ⟨y3,u3,G,f⟩:=Da f;unfold DT at d f;injection d with d
     injection d with d _
     injection d with i1 d
     injection d with i2 i3
     injection f with f
     injection f with f _
     injection f with i4 f
     injection f with i5 i6
     subst i1 i2 i3 i4 i5 i6
     have i := NV (Q := Jg) (fun X a Y H => by
       obtain ⟨x, y, rfl, hx, I, -⟩ := OL H
       have h6 := Mi hx (GJ _)
       have h7 := Ou I (Hs _ _ _)
       exact ⟨by simp only; omega, by simp only; omega, by simp only; omega, by simp only; omega⟩) _ _ _ _ z
     have J:=(Dx A).1;have K:=(Dx C).1;have L:=(Dx D).1;have N:=(Dx E).1;have O:=(Dx F).1;have p6:=(Dx G).1;exact ⟨J,K,L,o,N,O,by rw [i.1];have:(2:Nat) ^ 16=65536:=rfl;omega,i.2⟩
    .cases c
   .cases m
  .cases k
def DH (a d:jy):List UInt8×Int:=match Bj d with
 |some (_,g,c,B,E)=>match Dl c.alg a with
  |some (b,s,g2,B2,ah,bh,M)=>if b=g/\s=(G9 g c B E).toNat then
    if ah+bh<=E.length then haveI:=Zf6 g2 c B2 (Gj ah bh M (E.map (CT B B2)));if DR g2 c B2 (Gj ah bh M (E.map (CT B B2))) then (BJ 1 g2 c B2 (Gj ah bh M (E.map (CT B B2))),0) else ([],9)
    else ([],9)
   else ([],10)
  |none=>([],9)
 |none=>([],9)
theorem XL {ah bh:Nat} {M O:List EI}:(Gj ah bh M O).length<=M.length+2 * O.length:=by
 unfold Gj;simp only [jO,jk,jh];omega
theorem TG {ah bh:Nat} {M O:List EI} {e:EI} (h:e∈Gj ah bh M O):e∈M\/e∈O:=by
 unfold Gj at h;rcases jT.1 h with h|h
 .rcases jT.1 h with h|h
  .exact Or.inr (List.mem_of_mem_take h)
  .exact Or.inl h
 .exact Or.inr (List.mem_of_mem_drop h)
theorem W7 (Z ti:jt) (w:jj) (h1:Z.size<=1099511627776) (h2:ti.size<=1099511627776):
  Calls Tryz.prog 107 #[.string Z,.string ti] w (Ff w (DH Z.data.toList ti.data.toList)):=by
 have C:=fun Q=>JL ti Q h2
 rcases hi1:Bj ti.data.toList with _|⟨f,g,c,B,E⟩
 .rw [hi1] at C;unfold FH CU at C;have HF:Hid (DH Z.data.toList ti.data.toList=([],9)):=by show _=_;unfold DH;rw [hi1]
  rw [HF.out];go_enter Tryz.func107,Tryz.ntmps107;go_wp2_with fail;refine (C _).mono ?_;rintro e d ⟨G,rfl⟩;go_wp2;go_ret2;exact ⟨rfl,G.step_alloc _⟩
 rw [hi1] at C;unfold FH D8 at C;have m:=Hp hi1;have cd:=m.len;have ce:=m.right.1.2;have H:=fun Q=>QJ Z c.alg Q h1
 rcases hi2:Dl c.alg Z.data.toList with _|⟨b,s,R,z,ah,bh,M⟩
 .rw [hi2] at H;unfold L5 FY at H;have HF:Hid (DH Z.data.toList ti.data.toList=([],9)):=by show _=_;unfold DH;rw [hi1];simp only;rw [hi2]
  rw [HF.out];clear m;go_enter Tryz.func107,Tryz.ntmps107;go_wp2_with fail;refine (C _).mono ?_;rintro e d ⟨G,bq,br,rfl,n,o⟩;obtain ⟨aa,ab,rfl⟩:=B8 n;obtain ⟨ac,ad,rfl⟩:=B8 o;have am:=jp (G.step_alloc (.cells #[.int .i64 (f:Int),.int .i64 (g:Int),.int .i64 c.alg,.int .i64 c.slots,.int .i64 c.points,.int .i64 c.probes,.string c.key,.int .i64 c.formats,.slice aa B.length ab,.slice ac E.length ad] 135));clear n o G;go_wp2_with fail;refine (H _).mono ?_;rintro e Y ⟨D,rfl⟩;have S:=jp ((am.out.trans D).step_alloc (.cells #[.int .i64 0,.int .u32 0,.int .i64 0,.slice none 0 0,.int .i64 0,.int .i64 0,.slice none 0 0] 193));clear D;go_wp2;go_ret2;exact ⟨rfl,S.out⟩
 rw [hi2] at H;unfold L5 Hb at H;have i:=PY hi2;obtain ⟨O,T⟩:∃O,O=E.map (CT B z):=⟨_,rfl⟩;have cf:O.length<=E.length:=by rw [T,je];exact jH _
 obtain ⟨A,U⟩:∃N,N=Gj ah bh M O:=⟨_,rfl⟩
 have cg:A.length<=100000:=by
  have h3:=XL (ah:=ah) (bh:=bh) (M:=M) (O:=O);have h4:=i.len;rw [U];omega
 obtain ⟨sg,ae⟩:∃sg,sg=(G9 g c B E).toNat:=⟨_,rfl⟩
 have r:Hid (¬(b=g/\s=sg)->DH Z.data.toList ti.data.toList=([],10)):=fun h=>by
  rw [ae] at h;unfold DH;rw [hi1];simp only;rw [hi2];exact if_neg h
 have F:Hid (b=g->s=sg->ah+bh<=E.length->DR R c z A->DH Z.data.toList ti.data.toList=(BJ 1 R c z A,0)):=fun q1 q2 q3 q4=>by
  rw [ae] at q2;rw [U,T] at q4 |-;unfold DH;rw [hi1];simp only;rw [hi2];simp only;rw [if_pos ⟨q1,q2⟩,if_pos q3,if_pos q4]
 have y:Hid (b=g->s=sg->¬(ah+bh<=E.length/\DR R c z A)->DH Z.data.toList ti.data.toList=([],9)):=fun q1 q2 q3=>by
  rw [ae] at q2;rw [U,T] at q3;unfold DH;rw [hi1];simp only;rw [hi2];simp only;rw [if_pos ⟨q1,q2⟩];by_cases q4:ah+bh<=E.length
  .rw [if_pos q4,if_neg (fun h=>q3 ⟨q4,h⟩)]
  .rw [if_neg q4]
 have t:=fun vP vE Q h1 h2=>On f g c B E vP vE Q jo m.tok h1 m.good.1 h2 (fun e he=>(m.ents e he).1) jo
 have u:=fun q vP vE v2 Q hT hP hE bs=>OX q c vP vE v2 B z E Q hT hP hE bs (by have:=i.good.1.1;omega) jo
 rw [<-T] at u;have V:=fun q vM vO Q h4 h5 h6 hM hO=>XW q ah bh vM vO M O Q h4 h5 h6 hM hO (by have:=i.len;omega) jo (by have:=i.a16;omega) (by have:=i.h16;omega)
 rw [<-U] at V;have W:=fun vP vE Q hP hE=>Pa R c vP vE z A Q hP hE i.good.1 jo m.tok
 have ay:DR R c z A->A.length<=255/\(∀e∈A,Fp e):=fun h=>by
  have q1:=h.2.1;have q2:=LU m.tok i.good.1;refine ⟨jo,fun e he=>?_⟩;obtain ⟨j,hj,q3,q4⟩:=h.2.2.1 e he;have q5:=i.good.1.1
  have q6:0<=e.1/\e.1<18446744073709551616:=by
   rw [U] at he;rcases TG he with he|he
   .have:=i.ents e he;exact ⟨this.1,this.2.1⟩
   .rw [T] at he;obtain ⟨e0,bt,rfl⟩:=List.mem_map.1 he;exact m.pts e0 bt
  exact ⟨q6.1,q6.2,jo,jo⟩
 have I:=fun (hR:DR R c z A) vP vE Q hP hE=>Js 1 R c z A vP vE Q jo (by have:=i.g32;omega) m.tok hP i.good.1 hE (ay hR).2 (by have:=(ay hR).1;omega)
 unfold DW at W I;unfold D8 KY at t;rw [<-ae] at t;have bu:Hid (DR R c z A↔DR R c z A):=Iff.rfl;generalize BJ 1 R c z A=IB at *;generalize DR R c z A=RG at *;have b1:=i.a16;have b8:=i.h16;clear hi1 hi2 ae U T bu ay;go_enter Tryz.func107,Tryz.ntmps107;go_wp2_with fail;refine (C _).mono ?_;rintro e d ⟨G,bq,br,rfl,n,o⟩;obtain ⟨aa,ab,rfl⟩:=B8 n;obtain ⟨ac,ad,rfl⟩:=B8 o;have am:=jp G;have J:=jp (AJ.pool n);have K:=jp (AS.ents o);clear n o G C;go_wp2_with fail;refine (H _).mono ?_;rintro e Y ⟨D,ch,vM,rfl,af,az⟩;obtain ⟨ag,ai,rfl⟩:=B8 af;obtain ⟨aM,kM,rfl⟩:=B8 az;have bj:=(Ae.new d 135 #[.int .i64 (f:Int),.int .i64 (g:Int),.int .i64 c.alg,.int .i64 c.slots,.int .i64 c.points,.int .i64 c.probes,.string c.key,.int .i64 c.formats,.slice aa B.length ab,.slice ac E.length ad]).bel D;have bk:=(am.out.step_alloc _).trans D;obtain ⟨W2,an⟩:∃W2,W2=Y.alloc (.cells #[.int .i64 (b:Int),.int .u32 (s:Int),.int .i64 (R:Int),.slice ag z.length ai,.int .i64 (ah:Int),.int .i64 (bh:Int),.slice aM M.length kM] 193):=⟨_,rfl⟩;have L:Aa Y W2:=by rw [an];exact (jD Y).step_alloc _
 have ba:Hid (Ae Y.heap.size 193 #[.int .i64 (b:Int),.int .u32 (s:Int),.int .i64 (R:Int),.slice ag z.length ai,.int .i64 (ah:Int),.int .i64 (bh:Int),.slice aM M.length kM] W2):=by show Ae _ _ _ W2;rw [an];exact Ae.new _ _ _
 have HA:=jp (bj.bel L);have S:=jp (bk.trans L);replace J:=jp (((J.out.later ((jD d).step_alloc _)).later D).later L);replace K:=jp (((K.out.later ((jD d).step_alloc _)).later D).later L);have aj:=jp ((AJ.pool af).later L);have HM:=jp ((AS.ents az).later L);clear af az D H am bj bk L;go_wp2_with fail;rw [<-an];clear an;have A2:=HA.out;have C2:=ba.out;have a0:=A2.cell 0 rfl;have a1:=A2.cell 1 rfl;have a2:=A2.cell 2 rfl;have a3:=A2.cell 3 rfl;have a4:=A2.cell 4 rfl;have a5:=A2.cell 5 rfl;have a6:=A2.cell 6 rfl;have a7:=A2.cell 7 rfl;have a8:=A2.cell 8 rfl;have a9:=A2.cell 9 rfl;have k0:=C2.cell 0 rfl;have k1:=C2.cell 1 rfl;have k2:=C2.cell 2 rfl;have k3:=C2.cell 3 rfl;have k4:=C2.cell 4 rfl;have k5:=C2.cell 5 rfl;have k6:=C2.cell 6 rfl;clear A2 C2;by_cases bl:b=g
 rotate_left
 .have hF:=jp (r.out (fun h=>bl h.1));have ci:(((b:Int)) !=(g:Int))=true:=by rw [bne_iff_ne];omega
  clear r F y t u V W I;go_quiet (fail);go_wp2;go_ret2;rw [hF.out];exact ⟨rfl,S.out.step_drewN _⟩
 subst bl;by_cases bb:s=sg
 rotate_left
 .have hF:=jp (r.out (fun h=>bb h.2));have bv:(((s:Int)) !=(sg:Int))=true:=by rw [bne_iff_ne];omega
  clear r F y u V W I bb;go_region_held3 (fun w'=>Aa W2 w'/\w'.cell? ⟨d.heap.size,0,none⟩=some (.int .i64 (f:Int))/\w'.cell? ⟨d.heap.size,1,none⟩=some (.int .i64 (b:Int))/\w'.cell? ⟨d.heap.size,2,none⟩=some (.int .i64 c.alg)/\w'.cell? ⟨d.heap.size,3,none⟩=some (.int .i64 c.slots)/\w'.cell? ⟨d.heap.size,4,none⟩=some (.int .i64 c.points)/\w'.cell? ⟨d.heap.size,5,none⟩=some (.int .i64 c.probes)/\w'.cell? ⟨d.heap.size,6,none⟩=some (.string c.key)/\w'.cell? ⟨d.heap.size,7,none⟩=some (.int .i64 c.formats)/\w'.cell? ⟨d.heap.size,8,none⟩=some (.slice aa B.length ab)/\w'.cell? ⟨d.heap.size,9,none⟩=some (.slice ac E.length ad)/\w'.cell? ⟨Y.heap.size,0,none⟩=some (.int .i64 (b:Int))/\w'.cell? ⟨Y.heap.size,1,none⟩=some (.int .u32 (s:Int))) ((exact ⟨jq,Aa.cell jq a0,Aa.cell jq a1,Aa.cell jq a2,Aa.cell jq a3,Aa.cell jq a4,Aa.cell jq a5,Aa.cell jq a6,Aa.cell jq a7,Aa.cell jq a8,Aa.cell jq a9,Aa.cell jq k0,Aa.cell jq k1⟩)) ((go_at_call 156;refine Calls.mono (t _ _ _ (J.out.later jq) (K.out.later jq)) ?_;rintro e X ⟨rfl,bw⟩))
  all_goals
   have ak:Hid (Aa w X):=S.out.trans (by first|assumption|exact jq);go_wp2;go_ret2;rw [hF.out];exact ⟨rfl,ak.out⟩
 subst bb;have bv:(((s:Int)) !=(s:Int))=false:=js
 go_region_held3 (fun w'=>Aa W2 w'/\w'.cell? ⟨d.heap.size,0,none⟩=some (.int .i64 (f:Int))/\w'.cell? ⟨d.heap.size,1,none⟩=some (.int .i64 (b:Int))/\w'.cell? ⟨d.heap.size,2,none⟩=some (.int .i64 c.alg)/\w'.cell? ⟨d.heap.size,3,none⟩=some (.int .i64 c.slots)/\w'.cell? ⟨d.heap.size,4,none⟩=some (.int .i64 c.points)/\w'.cell? ⟨d.heap.size,5,none⟩=some (.int .i64 c.probes)/\w'.cell? ⟨d.heap.size,6,none⟩=some (.string c.key)/\w'.cell? ⟨d.heap.size,7,none⟩=some (.int .i64 c.formats)/\w'.cell? ⟨d.heap.size,8,none⟩=some (.slice aa B.length ab)/\w'.cell? ⟨d.heap.size,9,none⟩=some (.slice ac E.length ad)/\w'.cell? ⟨Y.heap.size,0,none⟩=some (.int .i64 (b:Int))/\w'.cell? ⟨Y.heap.size,1,none⟩=some (.int .u32 (s:Int))) ((exact ⟨jq,Aa.cell jq a0,Aa.cell jq a1,Aa.cell jq a2,Aa.cell jq a3,Aa.cell jq a4,Aa.cell jq a5,Aa.cell jq a6,Aa.cell jq a7,Aa.cell jq a8,Aa.cell jq a9,Aa.cell jq k0,Aa.cell jq k1⟩)) ((go_at_call 156;refine Calls.mono (t _ _ _ (J.out.later jq) (K.out.later jq)) ?_;rintro e X ⟨rfl,bw⟩));have l:Aa W2 X:=jq
 have ak:=jp (S.out.trans l);have bm:=jp (HA.out.bel l);have ao:=jp (ba.out.bel l);replace J:=jp (J.out.later l);replace K:=jp (K.out.later l);replace aj:=jp (aj.out.later l);replace HM:=jp (HM.out.later l);have A3:=bm.out;have C3:=ao.out;clear k0 k1 k2 k3 k4 k5 k6;have b2:=A3.cell 2 rfl;have b3:=A3.cell 3 rfl;have b4:=A3.cell 4 rfl;have b5:=A3.cell 5 rfl;have b6:=A3.cell 6 rfl;have b7:=A3.cell 7 rfl;have b9:=A3.cell 9 rfl;have k2:=C3.cell 2 rfl;have k3:=C3.cell 3 rfl;have k4:=C3.cell 4 rfl;have k5:=C3.cell 5 rfl;have k6:=C3.cell 6 rfl;have ca:d.heap.size<X.heap.size:=A3.lt;have cb:Y.heap.size<X.heap.size:=C3.lt;clear A3 C3 HA ba S t a0 a1 a2 a3 a4 a5 a6 a7 a8 a9;by_cases ap:ah+bh<=E.length
 rotate_left
 .have hF:=jp (y.out js js (fun h=>ap h.1));have bx:decide ((E.length:Int)<(ah:Int)+(bh:Int))=true:=jL jo;clear r F y ap u V W I;go_wp2;go_ret2;rw [hF.out];exact ⟨rfl,ak.out⟩
 have bx:decide ((E.length:Int)<(ah:Int)+(bh:Int))=false:=jK jo;replace F:=jp (F.out js js ap);replace y:Hid (¬RG->DH Z.data.toList ti.data.toList=([],9)):=fun h=>y.out js js (fun k=>h k.2)
 obtain ⟨W3,aq⟩:∃W3,W3=X.alloc (.cells #[.int .i64 c.alg,.int .i64 c.slots,.int .i64 c.points,.int .i64 c.probes,.string c.key,.int .i64 c.formats,.slice ag z.length ai,.slice none 0 0] 48):=⟨_,rfl⟩;have v:Aa X W3:=by rw [aq];exact (jD X).step_alloc _
 have bn:Hid (Ae X.heap.size 48 #[.int .i64 c.alg,.int .i64 c.slots,.int .i64 c.points,.int .i64 c.probes,.string c.key,.int .i64 c.formats,.slice ag z.length ai,.slice none 0 0] W3):=by show Ae _ _ _ W3;rw [aq];exact Ae.new _ _ _
 have A4:=bm.out.bel v;have H4:=jp (u d.heap.size _ _ _ W3 ⟨⟨A4.cell 2 rfl,A4.cell 3 rfl,A4.cell 4 rfl,A4.cell 5 rfl,A4.cell 6 rfl,A4.cell 7 rfl⟩,A4.cell 8 rfl,A4.cell 9 rfl⟩ (J.out.later v) (K.out.later v) (aj.out.later v));clear A4 u r ap;go_wp2_with fail;rw [<-aq];clear aq;refine H4.out.mono ?_;rintro e w4 ⟨vO,rfl,ar,bc⟩;obtain ⟨aO,kO,rfl⟩:=B8 bc;have P:=v.trans ar;have C4:=ao.out.bel P;have cj:X.heap.size<w4.heap.size:=(bn.out.bel ar).lt;have aw:=jp (bn.out.bel ar);have H5:=jp (V Y.heap.size _ _ w4 (C4.cell 4 rfl) (C4.cell 5 rfl) (C4.cell 6 rfl) (HM.out.later P) (AS.ents bc));have ax:=jp P;clear C4 V H4 bc ar v P b2 b3 b4 b5 b6 b7 b9 k2 k3 k4 k5 k6;go_wp2_with fail;refine H5.out.mono ?_;rintro e w5 ⟨vN,rfl,bd,be⟩;obtain ⟨aN,kN,rfl⟩:=B8 be;have T5:=aw.out.bel bd;have al:=jp (ax.out.trans bd);have C5:=ao.out.bel al.out;have k2:=C5.cell 2 rfl;have t0:=T5.cell 0 rfl;have t1:=T5.cell 1 rfl;have t2:=T5.cell 2 rfl;have t3:=T5.cell 3 rfl;have t4:=T5.cell 4 rfl;have t5:=T5.cell 5 rfl;have t6:=T5.cell 6 rfl;have t7:=T5.cell 7 rfl;have f7:=T5.free 7;have bf:=jp (al.out.step_set (p:=⟨X.heap.size,7,none⟩) (jH _) (.slice aN A.length kN));have bo:=jp (T5.set 7 (.slice aN A.length kN) (cs':=#[.int .i64 c.alg,.int .i64 c.slots,.int .i64 c.points,.int .i64 c.probes,.string c.key,.int .i64 c.formats,.slice ag z.length ai,.slice aN A.length kN]) rfl);have bg:=jp (ownsRow_setCell_below be (a:=⟨X.heap.size,7,none⟩) jv (.slice aN A.length kN));have cc:Y.heap.size≠X.heap.size:=jo
 have H6:=jp (W _ _ _ (aj.out.later bf.out) (AS.ents bg.out));clear C5 T5 bd be H5 ax aw al W;go_wp2_with fail;refine H6.out.mono ?_;rintro e w6 ⟨x,rfl,au,hx⟩;have HX:=jp hx;have av:=jp (bf.out.trans au);have T6:=bo.out.bel au;have C6:=ao.out.bel av.out;have bz:=jp (CV bg.out au);clear k2 t0 t1 t2 t3 t4 t5 t6 t7 f7;have k2:=C6.cell 2 rfl;have t0:=T6.cell 0 rfl;have t1:=T6.cell 1 rfl;have t2:=T6.cell 2 rfl;have t3:=T6.cell 3 rfl;have t4:=T6.cell 4 rfl;have t5:=T6.cell 5 rfl;have t6:=T6.cell 6 rfl;have t7:=T6.cell 7 rfl;clear T6 C6 au hx H6 bf bo bg;cases x
 .have hF:=jp (y.out (fun h=>by have:=HX.out.2 h;cases this));clear I F y HX;go_wp2;go_ret2;rw [hF.out];exact ⟨rfl,ak.out.trans av.out⟩
 .have bi:RG:=HX.out.1 js;have hF:=jp (F.out bi);have H7:=jp (I bi _ _ w6 (aj.out.later av.out) (Bv.of (AS.ents bz.out)));clear I F y HX bi;go_wp2_with fail;refine H7.out.mono ?_;rintro e w7 ⟨rfl,bp⟩;have b0:=jp (ak.out.trans (av.out.trans bp));clear bp;go_wp2;go_ret2;rw [hF.out];exact ⟨rfl,b0.out⟩
end Go.Proofs.YtpapdkhjdelfcaaGreat
