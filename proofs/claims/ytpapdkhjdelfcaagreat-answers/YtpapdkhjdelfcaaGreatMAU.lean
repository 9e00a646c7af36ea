import Derived.Test.YtpapdkhjdelfcaaGreatMAT
namespace Go.Proofs.YtpapdkhjdelfcaaGreat
open Go.RowKit
set_option maxRecDepth 100000
set_option maxHeartbeats 4000000
def Ef (fm g:Nat) (c:Ac) (B:List BK) (E:List EI) (h a cg cf b:Nat):Bl:=
 if (a &&& fm)=0 then (2,0,0,0,0,[]) else if g=0\/h=g then (0,0,0,0,0,[]) else
 (1, g, Dd cg cf (a &&& fm) g, countP (BJ (Dd cg cf (a &&& fm) g) g c B E).length, if cg = g /\ b < countP (BJ (Dd cg cf (a &&& fm) g) g c B E).length then b else 0,
   Fm (BJ (Dd cg cf (a &&& fm) g) g c B E) ((if cg = g /\ b < countP (BJ (Dd cg cf (a &&& fm) g) g c B E).length then b else 0 : Nat) : Int))
def N7 (w:jj) (a:Bl) (e:Ending) (w':jj):Prop:=e= .returned (BP a)/\Aa w w'
theorem six {w:jj} {r:Nat} {b:TypeId} {a:Array Value} (h:Ae r b a w) (c:a.size=6) (j:Nat) (d:j<6):w.cell? ⟨r,j,none⟩=some (AZ w r j):=by
 have:a[j]?=some a[j]:=Array.getElem?_eq_getElem jo;exact Oe (h.cell j this)
theorem JS {w w':jj} {s g:Nat} (d:Aa w w') (i:w.cell? ⟨s,8,none⟩=some (.int .i64 (g:Int))) (a:∃f c,Ae (w.heap.size+1) f c w'/\c.size=6):Aa w w'/\w'.cell? ⟨s,8,none⟩=some (.int .i64 (g:Int))/\w'.cell? ⟨w.heap.size+1,0,none⟩=some (AZ w' (w.heap.size+1) 0)/\w'.cell? ⟨w.heap.size+1,1,none⟩=some (AZ w' (w.heap.size+1) 1)/\w'.cell? ⟨w.heap.size+1,2,none⟩=some (AZ w' (w.heap.size+1) 2)/\w'.cell? ⟨w.heap.size+1,3,none⟩=some (AZ w' (w.heap.size+1) 3)/\w'.cell? ⟨w.heap.size+1,4,none⟩=some (AZ w' (w.heap.size+1) 4)/\w'.cell? ⟨w.heap.size+1,5,none⟩=some (AZ w' (w.heap.size+1) 5)/\w'.frozen? ⟨w.heap.size+1,0,none⟩=false/\w'.frozen? ⟨w.heap.size+1,1,none⟩=false/\w'.frozen? ⟨w.heap.size+1,2,none⟩=false/\w'.frozen? ⟨w.heap.size+1,3,none⟩=false/\w'.frozen? ⟨w.heap.size+1,4,none⟩=false/\w'.frozen? ⟨w.heap.size+1,5,none⟩=false:=by
 obtain ⟨f,c,a,b⟩:=a;exact ⟨d,d.cell i,six a b 0 jo,six a b 1 jo,six a b 2 jo,six a b 3 jo,six a b 4 jo,six a b 5 jo,a.free 0,a.free 1,a.free 2,a.free 3,a.free 4,a.free 5⟩
theorem Mq {w a b:jj} {s g:Nat} {u0 u1 u2 u3 u4 u5:ju} {d:TypeId} (f:Aa w a) (i:Ae (w.heap.size+1) d #[.int .i64 0,.int .i64 0,.int .i64 0,.int .i64 0,.int .i64 0,.string ⟨#[]⟩] a) (k:w.cell? ⟨s,8,none⟩=some (.int .i64 (g:Int))) (c:Aa a b):(fun w'=>Aa w w'/\w'.cell? ⟨s,8,none⟩=some (.int .i64 (g:Int))/\w'.cell? ⟨w.heap.size+1,0,none⟩=some (AZ w' (w.heap.size+1) 0)/\w'.cell? ⟨w.heap.size+1,1,none⟩=some (AZ w' (w.heap.size+1) 1)/\w'.cell? ⟨w.heap.size+1,2,none⟩=some (AZ w' (w.heap.size+1) 2)/\w'.cell? ⟨w.heap.size+1,3,none⟩=some (AZ w' (w.heap.size+1) 3)/\w'.cell? ⟨w.heap.size+1,4,none⟩=some (AZ w' (w.heap.size+1) 4)/\w'.cell? ⟨w.heap.size+1,5,none⟩=some (AZ w' (w.heap.size+1) 5)/\w'.frozen? ⟨w.heap.size+1,0,none⟩=false/\w'.frozen? ⟨w.heap.size+1,1,none⟩=false/\w'.frozen? ⟨w.heap.size+1,2,none⟩=false/\w'.frozen? ⟨w.heap.size+1,3,none⟩=false/\w'.frozen? ⟨w.heap.size+1,4,none⟩=false/\w'.frozen? ⟨w.heap.size+1,5,none⟩=false) ((((((b.setCell ⟨w.heap.size+1,0,none⟩ u0).setCell ⟨w.heap.size+1,1,none⟩ u1).setCell ⟨w.heap.size+1,2,none⟩ u2).setCell ⟨w.heap.size+1,3,none⟩ u3).setCell ⟨w.heap.size+1,4,none⟩ u4).setCell ⟨w.heap.size+1,5,none⟩ u5):=
 JS ((f.trans c).sets6 jo _ _ _ _ _ _) k ⟨_,_,((((((i.bel c).set 0 u0 rfl).set 1 u1 rfl).set 2 u2 rfl).set 3 u3 rfl).set 4 u4 rfl).set 5 u5 rfl,js⟩
theorem VL (s fm g:Nat) (c:Ac) (V W:ju) (B:List BK) (E:List EI) (h q cg cf o:Nat) (w:jj) (hT:Cx w s c V W) (P:c.formats=(fm:Int)) (U:w.cell? ⟨s,8,none⟩=some (.int .i64 (g:Int))) (hP:Am w V B) (hE:AR w W E) (hB:AL B) (hc:c.TOK) (X:∀e∈E,Fp e) (L:E.length<=65536) (hg:g<=4611686018427387904) (Y:q<256) (ah:fm<256):
  Calls Tryz.prog 72 #[.pointer (some ⟨s,0,none⟩),DC h q cg cf o] w (N7 w (Ef fm g c B E h q cg cf o)):=by
 obtain ⟨⟨x0,x1,x2,x3,x4,x5⟩,x6,x7⟩:=hT;rw [P] at x5;have am:=Nb q fm Y ah
 have t : Hid (Ef fm g c B E h q cg cf o = if (q &&& fm) = 0 then (2, 0, 0, 0, 0, []) else if g = 0 \/ h = g then (0, 0, 0, 0, 0, []) else
   (1, g, Dd cg cf (q &&& fm) g, countP (BJ (Dd cg cf (q &&& fm) g) g c B E).length, if cg = g /\ o < countP (BJ (Dd cg cf (q &&& fm) g) g c B E).length then o else 0,
     Fm (BJ (Dd cg cf (q &&& fm) g) g c B E) ((if cg = g /\ o < countP (BJ (Dd cg cf (q &&& fm) g) g c B E).length then o else 0 : Nat) : Int))) := rfl
 have an:(q &&& fm)<256:=Nat.lt_of_le_of_lt Nat.and_le_left Y;generalize (q &&& fm)=Z at *;have aa:=fun Q=>Un h q cg cf o Z g Q
 have ab:Dd cg cf Z g<=4611686018427387904:=by unfold Dd;split <;>(try split)<;>omega
 generalize Dd cg cf Z g=M at *;have I:=fun Q h1 h2=>Js M g c B E V W Q ab hg hc h1 hB h2 X L
 have ap:(BJ M g c B E).length<=1099511627776:=by
  have h1:=Jb (f:=M) (g:=g) (E:=E) hc.2.2.2.2.2.2.2.2.2 hB L;have h2:∀x,(Cn x).length<=1000:=fun x=>by simp [Cn]
  have h3:=h2 (CB (AK (DS M g c B E)));unfold BJ;rw [jO];omega
 unfold DW at I;rw [P] at I;generalize BJ M g c B E=N at *;have ai:(Ai N).size=N.length:=by simp [Ai,ByteArray.size]
 have R:=fun Q=>O2 (Ai N) Q jo
 have J:=fun n Q=>Sk (Ai N) n Q jo
 rw [ai] at R;rw [Fs] at J;generalize countP N.length=O at *;unfold DC at *;obtain ⟨d,z⟩:∃d,d=(w.alloc (.cells #[.int .i64 (h:Int),.int .i64 (q:Int),.int .i64 (cg:Int),.int .i64 (cf:Int),.int .i64 (o:Int)] 105)).alloc (.cells #[.int .i64 0,.int .i64 0,.int .i64 0,.int .i64 0,.int .i64 0,.string ⟨#[]⟩] 109):=⟨_,rfl⟩;have b:Aa w d:=by rw [z];exact ((jD w).step_alloc _).step_alloc _
 have u:Ae w.heap.size 105 #[.int .i64 (h:Int),.int .i64 (q:Int),.int .i64 (cg:Int),.int .i64 (cf:Int),.int .i64 (o:Int)] d:=by rw [z];exact (Ae.new w _ _).alloc _
 have p:Hid (Ae (w.heap.size+1) 109 #[.int .i64 0,.int .i64 0,.int .i64 0,.int .i64 0,.int .i64 0,.string ⟨#[]⟩] d):=by
  show Ae _ _ _ d;rw [z];have:=Ae.new (w.alloc (.cells #[.int .i64 (h:Int),.int .i64 (q:Int),.int .i64 (cg:Int),.int .i64 (cf:Int),.int .i64 (o:Int)] 105)) 109 #[.int .i64 0,.int .i64 0,.int .i64 0,.int .i64 0,.int .i64 0,.string ⟨#[]⟩];rw [show (w.alloc (.cells #[.int .i64 (h:Int),.int .i64 (q:Int),.int .i64 (cg:Int),.int .i64 (cf:Int),.int .i64 (o:Int)] 105)).heap.size=w.heap.size+1 by simp] at this;exact this
 have a0:d.cell? ⟨w.heap.size,0,none⟩=some (.int .i64 (h:Int)):=u.cell 0 rfl;have a1:d.cell? ⟨w.heap.size,1,none⟩=some (.int .i64 (q:Int)):=u.cell 1 rfl;have a2:d.cell? ⟨w.heap.size,2,none⟩=some (.int .i64 (cg:Int)):=u.cell 2 rfl;have a3:d.cell? ⟨w.heap.size,3,none⟩=some (.int .i64 (cf:Int)):=u.cell 3 rfl;have a4:d.cell? ⟨w.heap.size,4,none⟩=some (.int .i64 (o:Int)):=u.cell 4 rfl;have t0:d.cell? ⟨s,0,none⟩=some (.int .i64 c.alg):=b.cell x0;have t1:d.cell? ⟨s,1,none⟩=some (.int .i64 c.slots):=b.cell x1;have t2:d.cell? ⟨s,2,none⟩=some (.int .i64 c.points):=b.cell x2;have t3:d.cell? ⟨s,3,none⟩=some (.int .i64 c.probes):=b.cell x3;have t4:d.cell? ⟨s,4,none⟩=some (.string c.key):=b.cell x4;have t5:d.cell? ⟨s,5,none⟩=some (.int .i64 (fm:Int)):=b.cell x5;have t6:d.cell? ⟨s,6,none⟩=some (V):=b.cell x6;have t7:d.cell? ⟨s,7,none⟩=some (W):=b.cell x7;have S:=U;have aq:s<w.heap.size:=jF U;replace U:d.cell? ⟨s,8,none⟩=some (.int .i64 (g:Int)):=b.cell S;have y:=p.out;have A:d.cell? ⟨w.heap.size+1,0,none⟩=some (.int .i64 0):=y.cell 0 rfl;have z0:=y.free 0;have C:d.cell? ⟨w.heap.size+1,1,none⟩=some (.int .i64 0):=y.cell 1 rfl;have z1:=y.free 1;have D:d.cell? ⟨w.heap.size+1,2,none⟩=some (.int .i64 0):=y.cell 2 rfl;have z2:=y.free 2;have F:d.cell? ⟨w.heap.size+1,3,none⟩=some (.int .i64 0):=y.cell 3 rfl;have z3:=y.free 3;have G:d.cell? ⟨w.heap.size+1,4,none⟩=some (.int .i64 0):=y.cell 4 rfl;have z4:=y.free 4;have H:d.cell? ⟨w.heap.size+1,5,none⟩=some (.string ⟨#[]⟩):=y.cell 5 rfl;have z5:=y.free 5;have HP:=jp (hP.later b);have HE:=jp (Bv.of (hE.later b));have ar:s≠w.heap.size:=jo
 have ao:s≠w.heap.size+1:=jo
 clear y u x0 x1 x2 x3 x4 x5 x6 x7 hP hE X hB hc P;go_enter Tryz.func72,Tryz.ntmps72;go_wp2_with fail;rw [<-z];clear z;go_quiet (fail);by_cases h0:Z=0
 .subst h0;rw [if_pos rfl] at t;go_wp2;rw [t.out];exact bodyPost_ret (v:=BP (2,0,0,0,0,[])) (by simp [BP,Zcn,results,Tryz.results72,go_sem,A,C,D,F,G,H]) rfl ⟨rfl,(b.step_drewN _).sets6 jo _ _ _ _ _ _⟩
 rw [if_neg h0] at t;have au:((Z:Int)==0)=false:=by rw [jI];omega
 by_cases T:g=0\/h=g
 .rw [if_pos T] at t;by_cases ac:g=0
  .subst ac;have hd:(((0:Nat):Int)==0)=true:=rfl;go_wp2_with fail;go_quiet (fail);go_wp2;rw [t.out];exact bodyPost_ret (v:=BP (0,0,0,0,0,[])) (by simp [BP,Zcn,results,Tryz.results72,go_sem,A,C,D,F,G,H]) rfl ⟨rfl,(b.step_drewN _).sets6 jo _ _ _ _ _ _⟩
  .have hh:h=g:=by rcases T with h|h;exact absurd h ac;exact h
   subst hh;have hd:((h:Int)==0)=false:=by rw [jI];omega
   have aj:((h:Int)==(h:Int))=true:=js
   go_wp2_with fail;go_quiet (fail);go_wp2;rw [t.out];exact bodyPost_ret (v:=BP (0,0,0,0,0,[])) (by simp [BP,Zcn,results,Tryz.results72,go_sem,A,C,D,F,G,H]) rfl ⟨rfl,(b.step_drewN _).sets6 jo _ _ _ _ _ _⟩
 rw [if_neg T] at t;have hd:((g:Int)==0)=false:=by rw [jI];omega
 have aj:((h:Int)==(g:Int))=false:=by rw [jI];omega
 go_wp2_with fail;go_quiet (fail);go_wp2_with fail;go_region_held3 (fun w'=>Aa d w'/\w'.cell? ⟨w.heap.size,0,none⟩=some (.int .i64 (h:Int))/\w'.cell? ⟨w.heap.size,1,none⟩=some (.int .i64 (q:Int))/\w'.cell? ⟨w.heap.size,2,none⟩=some (.int .i64 (cg:Int))/\w'.cell? ⟨w.heap.size,3,none⟩=some (.int .i64 (cf:Int))/\w'.cell? ⟨w.heap.size,4,none⟩=some (.int .i64 (o:Int))/\w'.cell? ⟨s,8,none⟩=some (.int .i64 (g:Int))) ((exact ⟨j8,Aa.cell (a:=d) j8 a0,Aa.cell (a:=d) j8 a1,Aa.cell (a:=d) j8 a2,Aa.cell (a:=d) j8 a3,Aa.cell (a:=d) j8 a4,Aa.cell (a:=d) j8 U⟩)) ((go_at_call 124;refine Calls.mono (aa _) ?_;rintro e w1 ⟨rfl,av⟩));have ad:Aa d w1:=j8
 clear A C D F G H z0 z1 z2 z3 z4 z5;go_wp2_with fail;go_region_held3 (fun w'=>Aa d w'/\w'.cell? ⟨s,0,none⟩=some (.int .i64 c.alg)/\w'.cell? ⟨s,1,none⟩=some (.int .i64 c.slots)/\w'.cell? ⟨s,2,none⟩=some (.int .i64 c.points)/\w'.cell? ⟨s,3,none⟩=some (.int .i64 c.probes)/\w'.cell? ⟨s,4,none⟩=some (.string c.key)/\w'.cell? ⟨s,5,none⟩=some (.int .i64 (fm:Int))/\w'.cell? ⟨s,6,none⟩=some (V)/\w'.cell? ⟨s,7,none⟩=some (W)/\w'.cell? ⟨s,8,none⟩=some (.int .i64 (g:Int))) ((exact ⟨j8,Aa.cell (a:=d) j8 t0,Aa.cell (a:=d) j8 t1,Aa.cell (a:=d) j8 t2,Aa.cell (a:=d) j8 t3,Aa.cell (a:=d) j8 t4,Aa.cell (a:=d) j8 t5,Aa.cell (a:=d) j8 t6,Aa.cell (a:=d) j8 t7,Aa.cell (a:=d) j8 U⟩)) ((go_at_call 101;refine Calls.mono (I _ (HP.out.later j8) (HE.out.later j8)) ?_;rintro e w2 ⟨rfl,aw⟩));have r:Aa d w2:=j8
 go_wp2_with fail;refine (R _).mono ?_;rintro e w3 ⟨rfl,rfl⟩;have b2:=r.cell a2;have b4:=r.cell a4;have u8:=r.cell U;have i:=jp r;clear a0 a1 a2 a3 a4 t0 t1 t2 t3 t4 t5 t6 t7 ad aa I R;go_wp2_with fail;by_cases ae:cg=g
 .subst ae;have ak:((cg:Int)==(cg:Int))=true:=js
  by_cases K:o<O
  .rw [if_pos ⟨rfl,K⟩] at t;have al:decide ((o:Int)<(O:Int))=true:=jL jo;have af:decide (o<O)=true:=jL K;go_quiet (fail);go_wp2_with fail;go_region_held3 (fun w'=>Aa w w'/\w'.cell? ⟨s,8,none⟩=some (.int .i64 (cg:Int))/\w'.cell? ⟨w.heap.size+1,0,none⟩=some (AZ w' (w.heap.size+1) 0)/\w'.cell? ⟨w.heap.size+1,1,none⟩=some (AZ w' (w.heap.size+1) 1)/\w'.cell? ⟨w.heap.size+1,2,none⟩=some (AZ w' (w.heap.size+1) 2)/\w'.cell? ⟨w.heap.size+1,3,none⟩=some (AZ w' (w.heap.size+1) 3)/\w'.cell? ⟨w.heap.size+1,4,none⟩=some (AZ w' (w.heap.size+1) 4)/\w'.cell? ⟨w.heap.size+1,5,none⟩=some (AZ w' (w.heap.size+1) 5)/\w'.frozen? ⟨w.heap.size+1,0,none⟩=false/\w'.frozen? ⟨w.heap.size+1,1,none⟩=false/\w'.frozen? ⟨w.heap.size+1,2,none⟩=false/\w'.frozen? ⟨w.heap.size+1,3,none⟩=false/\w'.frozen? ⟨w.heap.size+1,4,none⟩=false/\w'.frozen? ⟨w.heap.size+1,5,none⟩=false) ((first|with_reducible exact Mq b p.out S j8|exact JS (b.trans (i.out.trans j8)) S ⟨_,_,p.out.bel (i.out.trans j8),rfl⟩)) ((go_at_call 126;refine Calls.mono (J _ _) ?_;rintro e w4 ⟨rfl,ag⟩));have l:Aa w2 w4:=j8
   have m:=p.out.bel (i.out.trans l);have A:=m.cell 0 rfl;have C:=m.cell 1 rfl;have D:=m.cell 2 rfl;have F:=m.cell 3 rfl;have G:=m.cell 4 rfl;have H:=m.cell 5 rfl;have HB:=jp (b.trans (i.out.trans l));clear m l;go_wp2;rw [t.out];exact bodyPost_ret (v:=BP (1,cg,M,O,o,Fm N ((o:Nat):Int))) (by simp [BP,results,Tryz.results72,go_sem,A,C,D,F,G,H]) rfl ⟨rfl,HB.out.sets6 jo _ _ _ _ _ _⟩
  .rw [if_neg (fun k=>K k.2)] at t;have al:decide ((o:Int)<(O:Int))=false:=jK jo;have af:decide (o<O)=false:=jK K;go_quiet (fail);go_wp2_with fail;go_region_held3 (fun w'=>Aa w w'/\w'.cell? ⟨s,8,none⟩=some (.int .i64 (cg:Int))/\w'.cell? ⟨w.heap.size+1,0,none⟩=some (AZ w' (w.heap.size+1) 0)/\w'.cell? ⟨w.heap.size+1,1,none⟩=some (AZ w' (w.heap.size+1) 1)/\w'.cell? ⟨w.heap.size+1,2,none⟩=some (AZ w' (w.heap.size+1) 2)/\w'.cell? ⟨w.heap.size+1,3,none⟩=some (AZ w' (w.heap.size+1) 3)/\w'.cell? ⟨w.heap.size+1,4,none⟩=some (AZ w' (w.heap.size+1) 4)/\w'.cell? ⟨w.heap.size+1,5,none⟩=some (AZ w' (w.heap.size+1) 5)/\w'.frozen? ⟨w.heap.size+1,0,none⟩=false/\w'.frozen? ⟨w.heap.size+1,1,none⟩=false/\w'.frozen? ⟨w.heap.size+1,2,none⟩=false/\w'.frozen? ⟨w.heap.size+1,3,none⟩=false/\w'.frozen? ⟨w.heap.size+1,4,none⟩=false/\w'.frozen? ⟨w.heap.size+1,5,none⟩=false) ((first|with_reducible exact Mq b p.out S j8|exact JS (b.trans (i.out.trans j8)) S ⟨_,_,p.out.bel (i.out.trans j8),rfl⟩)) ((go_at_call 126;refine Calls.mono (J _ _) ?_;rintro e w4 ⟨rfl,ag⟩));have l:Aa w2 w4:=j8
   have m:=p.out.bel (i.out.trans l);have A:=m.cell 0 rfl;have C:=m.cell 1 rfl;have D:=m.cell 2 rfl;have F:=m.cell 3 rfl;have G:=m.cell 4 rfl;have H:=m.cell 5 rfl;have HB:=jp (b.trans (i.out.trans l));clear m l;go_wp2;rw [t.out];exact bodyPost_ret (v:=BP (1,cg,M,O,0,Fm N ((0:Nat):Int))) (by simp [BP,results,Tryz.results72,go_sem,A,C,D,F,G,H]) rfl ⟨rfl,HB.out.sets6 jo _ _ _ _ _ _⟩
 .rw [if_neg (fun k=>ae k.1)] at t;have ak:((cg:Int)==(g:Int))=false:=by rw [jI];omega
  go_quiet (fail);go_wp2_with fail;go_region_held3 (fun w'=>Aa w w'/\w'.cell? ⟨s,8,none⟩=some (.int .i64 (g:Int))/\w'.cell? ⟨w.heap.size+1,0,none⟩=some (AZ w' (w.heap.size+1) 0)/\w'.cell? ⟨w.heap.size+1,1,none⟩=some (AZ w' (w.heap.size+1) 1)/\w'.cell? ⟨w.heap.size+1,2,none⟩=some (AZ w' (w.heap.size+1) 2)/\w'.cell? ⟨w.heap.size+1,3,none⟩=some (AZ w' (w.heap.size+1) 3)/\w'.cell? ⟨w.heap.size+1,4,none⟩=some (AZ w' (w.heap.size+1) 4)/\w'.cell? ⟨w.heap.size+1,5,none⟩=some (AZ w' (w.heap.size+1) 5)/\w'.frozen? ⟨w.heap.size+1,0,none⟩=false/\w'.frozen? ⟨w.heap.size+1,1,none⟩=false/\w'.frozen? ⟨w.heap.size+1,2,none⟩=false/\w'.frozen? ⟨w.heap.size+1,3,none⟩=false/\w'.frozen? ⟨w.heap.size+1,4,none⟩=false/\w'.frozen? ⟨w.heap.size+1,5,none⟩=false) ((first|with_reducible exact Mq b p.out S j8|exact JS (b.trans (i.out.trans j8)) S ⟨_,_,p.out.bel (i.out.trans j8),rfl⟩)) ((go_at_call 126;refine Calls.mono (J _ _) ?_;rintro e w4 ⟨rfl,ag⟩));have l:Aa w2 w4:=j8
  have m:=p.out.bel (i.out.trans l);have A:=m.cell 0 rfl;have C:=m.cell 1 rfl;have D:=m.cell 2 rfl;have F:=m.cell 3 rfl;have G:=m.cell 4 rfl;have H:=m.cell 5 rfl;have HB:=jp (b.trans (i.out.trans l));clear m l;go_wp2;rw [t.out];exact bodyPost_ret (v:=BP (1,g,M,O,0,Fm N ((0:Nat):Int))) (by simp [BP,results,Tryz.results72,go_sem,A,C,D,F,G,H]) rfl ⟨rfl,HB.out.sets6 jo _ _ _ _ _ _⟩
def DB (k:Nat):List Bool:=([]++Az [65])++Ax k (8 * 1)
def Et (g f c n:Nat) (t:jt):List Bool:=((((DB 1++Ax g (8 * 4))++Ax f (8 * 1))++Ax c (8 * 2))++Ax n (8 * 2))++Az t.data.toList
theorem UH (k g f c n:Nat) (t:jt) (w:jj) (G:k<=4611686018427387904) (K:((k:Int)==1)=false):
  Calls Tryz.prog 73 #[.agg #[.int .i64 (k:Int),.int .i64 (g:Int),.int .i64 (f:Int),.int .i64 (c:Int),.int .i64 (n:Int),.string t]] w (DE w (AK (DB k)++Cn (CB (AK (DB k))))):=by
 obtain ⟨a,b⟩:∃a,a=w.alloc (.cells #[.int .i64 (k:Int),.int .i64 (g:Int),.int .i64 (f:Int),.int .i64 (c:Int),.int .i64 (n:Int),.string t] 109):=⟨_,rfl⟩;have u:a.heap.size=w.heap.size+1:=by rw [b];simp
 have v:Aa w a:=by rw [b];exact (jD w).step_alloc _
 have A:a.cell? ⟨w.heap.size,0,none⟩=some (.int .i64 (k:Int)):=by rw [b];simp
 have i:=Bb.new a 166;rw [u] at i;have C:=jp (Gh a (w.heap.size+1) [] ⟨#[65]⟩ _ i (by simp [ByteArray.size]));clear i;go_enter Tryz.func73,Tryz.ntmps73;go_wp2_with fail;rw [<-b];refine C.out.mono ?_;rintro e L ⟨rfl,l⟩;clear C;have o:=l.1;have D:=jp (Cb a (w.heap.size+1) _ k 1 _ l (by simp [Bk]) jo G);have H:=o.cell A;clear l;go_wp2_with fail;refine D.out.mono ?_;rintro e I ⟨rfl,m⟩;clear D H o;have M:=m.1.cell A;have d:Bb (fun _=>none) a (w.heap.size+1) (DB k) I:=m;have p:(DB k).length<=99999999:=by simp [DB,Bd,Bk]
 have E:=jp (Ij a (w.heap.size+1) _ _ d jo);clear m d;go_wp2_with fail;refine E.out.mono ?_;rintro e J ⟨rfl,q⟩;clear E;have x:=jp (v.trans q.1);have F:(AK (DB k)).length<=99999999:=jX (Gi _ _ (jH _)) p;have y:=Jd (Ai (AK (DB k))) J (by simp [Ai,ByteArray.size];omega);rw [Fs] at y;generalize AK (DB k)=B at *;have r:=jp y;clear y q p;go_wp2_with fail;refine r.out.mono ?_;rintro e N ⟨rfl,s⟩;have z:=jp (x.out.trans s);clear r s;go_wp2;go_ret;exact ⟨rfl,z.out⟩
theorem Yf (g f c n:Nat) (t:jt) (w:jj) (U:g<=4611686018427387904) (V:f<=4611686018427387904) (W:c<=4611686018427387904) (X:n<=4611686018427387904) (ht:t.size<=1048576):
  Calls Tryz.prog 73 #[.agg #[.int .i64 1,.int .i64 (g:Int),.int .i64 (f:Int),.int .i64 (c:Int),.int .i64 (n:Int),.string t]] w (DE w (AK (Et g f c n t)++Cn (CB (AK (Et g f c n t))))):=by
 obtain ⟨a,b⟩:∃a,a=w.alloc (.cells #[.int .i64 1,.int .i64 (g:Int),.int .i64 (f:Int),.int .i64 (c:Int),.int .i64 (n:Int),.string t] 109):=⟨_,rfl⟩;have F:a.heap.size=w.heap.size+1:=by rw [b];simp
 have G:Aa w a:=by rw [b];exact (jD w).step_alloc _
 have K:a.cell? ⟨w.heap.size,0,none⟩=some (.int .i64 1):=by rw [b];simp
 have Y:a.cell? ⟨w.heap.size,1,none⟩=some (.int .i64 (g:Int)):=by rw [b];simp
 have Z:a.cell? ⟨w.heap.size,2,none⟩=some (.int .i64 (f:Int)):=by rw [b];simp
 have q3:a.cell? ⟨w.heap.size,3,none⟩=some (.int .i64 (c:Int)):=by rw [b];simp
 have q4:a.cell? ⟨w.heap.size,4,none⟩=some (.int .i64 (n:Int)):=by rw [b];simp
 have q5:a.cell? ⟨w.heap.size,5,none⟩=some (.string t):=by rw [b];simp
 have k:=Bb.new a 166;rw [F] at k;have L:=jp (Gh a (w.heap.size+1) [] ⟨#[65]⟩ _ k (by simp [ByteArray.size]));clear k;go_enter Tryz.func73,Tryz.ntmps73;go_wp2_with fail;rw [<-b];refine L.out.mono ?_;rintro e w1 ⟨rfl,l⟩;clear L;have r:=l.1;have M:=jp (Cb a (w.heap.size+1) _ 1 1 _ l (by simp [Bk]) jo ji);have a1:=r.cell K;clear l;go_wp2_with fail;refine M.out.mono ?_;rintro e w2 ⟨rfl,d⟩;clear M a1 r;have a0:=d.1.cell K;have s:=d.1;have N:=jp (Cb a (w.heap.size+1) _ g 4 _ d (by simp [Bk,Bd]) jo U);have a2:=s.cell Y;clear d;go_wp2_with fail;refine N.out.mono ?_;rintro e w3 ⟨rfl,m⟩;clear N a2 s;have u:=m.1;have O:=jp (Cb a (w.heap.size+1) _ f 1 _ m (by simp [Bk,Bd]) jo V);have a3:=u.cell Z;clear m;go_wp2_with fail;refine O.out.mono ?_;rintro e w4 ⟨rfl,o⟩;clear O a3 u;have v:=o.1;have P:=jp (Cb a (w.heap.size+1) _ c 2 _ o (by simp [Bk,Bd]) jo W);have a4:=v.cell q3;clear o;go_wp2_with fail;refine P.out.mono ?_;rintro e w5 ⟨rfl,p⟩;clear P a4 v;have x:=p.1;have Q:=jp (Cb a (w.heap.size+1) _ n 2 _ p (by simp [Bk,Bd]) jo X);have a5:=x.cell q4;clear p;go_wp2_with fail;refine Q.out.mono ?_;rintro e w6 ⟨rfl,q⟩;clear Q a5 x;have y:=q.1;have R:=jp (Gh a (w.heap.size+1) _ t _ q (by simp [Bk,Bd];omega));have a6:=y.cell q5;clear q;go_wp2_with fail;refine R.out.mono ?_;rintro e w7 ⟨rfl,z⟩;clear R a6 y;have i:Bb (fun _=>none) a (w.heap.size+1) (Et g f c n t) w7:=z;have A:(Et g f c n t).length<=99999999:=by simp [Et,DB,Bd,Bk];omega
 have S:=jp (Ij a (w.heap.size+1) _ _ i jo);clear z i;go_wp2_with fail;refine S.out.mono ?_;rintro e w8 ⟨rfl,C⟩;clear S;have H:=jp (G.trans C.1);have T:(AK (Et g f c n t)).length<=99999999:=jX (Gi _ _ (jH _)) A;have I:=Jd (Ai (AK (Et g f c n t))) w8 (by simp [Ai,ByteArray.size];omega);rw [Fs] at I;generalize AK (Et g f c n t)=B at *;have D:=jp I;clear I C A;go_wp2_with fail;refine D.out.mono ?_;rintro e wz ⟨rfl,E⟩;have J:=jp (H.out.trans E);clear D E;go_wp2;go_ret;exact ⟨rfl,J.out⟩
def Hu (a:Bl):List UInt8:=if a.1=1 then AK (Et a.2.1 a.2.2.1 a.2.2.2.1 a.2.2.2.2.1 (Ai a.2.2.2.2.2))++Cn (CB (AK (Et a.2.1 a.2.2.1 a.2.2.2.1 a.2.2.2.2.1 (Ai a.2.2.2.2.2)))) else AK (DB a.1)++Cn (CB (AK (DB a.1)))
theorem Wy (a:Bl) (w:jj) (d:a.1<=4611686018427387904) (i:a.2.1<=4611686018427387904) (l:a.2.2.1<=4611686018427387904) (m:a.2.2.2.1<=4611686018427387904) (o:a.2.2.2.2.1<=4611686018427387904) (p:a.2.2.2.2.2.length<=1048576):
  Calls Tryz.prog 73 #[BP a] w (DE w (Hu a)):=by
 obtain ⟨k,g,f,c,n,s⟩:=a;unfold BP Hu;simp only at *;by_cases b:k=1
 .subst b;rw [if_pos rfl];exact Yf g f c n (Ai s) w i l m o (by simpa [Ai,ByteArray.size] using p)
 .rw [if_neg b];exact UH k g f c n (Ai s) w d (by rw [jI];omega)
theorem WE {l:jy} {h f c m n:Nat} (g:ZcB l=some (h,f,c,m,n)):h<4294967296/\f<256/\c<4294967296/\m<256/\n<65536:=by
 unfold ZcB at g;cases k:CQ l with
 |none=>rw [k] at g;cases g
 |some b=>
  rw [k] at g;have i:(JE (Az b)).bind (fun y=>if BW (some y.2)=true/\y.1.1=[81] then some y.1.2 else none)=some (h,f,c,m,n):=g;cases a:JE (Az b) with
  |none=>rw [a] at i;cases i
  |some y=>
   rw [a] at i;have d:(if BW (some y.2)=true/\y.1.1=[81] then some y.1.2 else none)=some (h,f,c,m,n):=i;split at d
   .injection d with d
    obtain ⟨t,u, -,a⟩:=Da a;obtain ⟨v,w,o,a⟩:=Da a;obtain ⟨x,z,p,a⟩:=Da a;obtain ⟨A,B,q,a⟩:=Da a;obtain ⟨C,D,r,a⟩:=Da a;obtain ⟨E,F,s,a⟩:=Da a;unfold DT at a;injection a with a
    rw [<-a] at d;injection d with e1 d
    injection d with e2 d
    injection d with e3 d
    injection d with e4 e5
    rw [<-e1,<-e2,<-e3,<-e4,<-e5];exact ⟨(Dx o).1,(Dx p).1,(Dx q).1,(Dx r).1,(Dx s).1⟩
   .cases d
def GO (fm g:Nat) (c:Ac) (B:List BK) (E:List EI) (l:jy):List UInt8:=match ZcB l with
 |some (h,fo,cg,cf,mi)=>Hu (Ef fm g c B E h fo cg cf mi)
 |none=>[]
theorem PM (l:jy) (n:Int):(Fm l n).length<=48:=by
 unfold Fm;split
 .simp
 .rw [jk];omega
theorem UJ {fm g:Nat} {c:Ac} {B:List BK} {E:List EI} {h a cg cf b:Nat} (m:g<=4294967296) (n:b<65536) (d:a<256) (i:∀f,(BJ f g c B E).length<=1099511627776):(Ef fm g c B E h a cg cf b).1<=4611686018427387904/\(Ef fm g c B E h a cg cf b).2.1<=4611686018427387904/\(Ef fm g c B E h a cg cf b).2.2.1<=4611686018427387904/\(Ef fm g c B E h a cg cf b).2.2.2.1<=4611686018427387904/\(Ef fm g c B E h a cg cf b).2.2.2.2.1<=4611686018427387904/\(Ef fm g c B E h a cg cf b).2.2.2.2.2.length<=1048576:=by
 have k:(a &&& fm)<256:=Nat.lt_of_le_of_lt Nat.and_le_left d;unfold Ef;split
 .exact ⟨js,js,js,js,js,js⟩
 .split
  .exact ⟨js,js,js,js,js,js⟩
  .have o:Dd cg cf (a &&& fm) g<=256:=by unfold Dd;split <;>(try split)<;>omega
   have p:=i (Dd cg cf (a &&& fm) g);have l:countP (BJ (Dd cg cf (a &&& fm) g) g c B E).length<=4611686018427387904:=by unfold countP;omega
   refine ⟨js,jv,jv,l,?_,?_⟩
   .simp only;split <;>omega
   .simp only;exact jX (PM _ _) ji
theorem Tn (s fm g:Nat) (c:Ac) (z A:ju) (B:List BK) (E:List EI) (t:jt) (w:jj) (C:Cx w s c z A) (D:c.formats=(fm:Int)) (V:w.cell? ⟨s,8,none⟩=some (.int .i64 (g:Int))) (F:Am w z B) (G:AR w A E) (H:AL B) (I:c.TOK) (l:∀e∈E,Fp e) (k:E.length<=65536) (W:g<=4294967296) (J:fm<256) (X:t.size<=1099511627776):
  Calls Tryz.prog 40 #[.pointer (some ⟨s,0,none⟩),.string t] w (DE w (GO fm g c B E t.data.toList)):=by
 have a:=fun n=>UM t n X
 rcases hq:ZcB t.data.toList with _|⟨h,o,cg,cf,p⟩
 .rw [hq] at a;unfold ME Fl DC at a;have y:Hid (GO fm g c B E t.data.toList=[]):=by show _=_;unfold GO;rw [hq]
  rw [y.out];clear C F G l;go_enter Tryz.func40,Tryz.ntmps40;go_wp2_with fail;refine (a _).mono ?_;rintro e Y ⟨rfl,b⟩;have d:=jp b;clear b a;go_wp2;go_ret;exact ⟨rfl,d.out.step_alloc _⟩
 .rw [hq] at a;unfold ME Fl at a;obtain ⟨Z,K,q3,q4,M⟩:=WE hq;have y:Hid (GO fm g c B E t.data.toList=Hu (Ef fm g c B E h o cg cf p)):=by show _=_;unfold GO;rw [hq]
  have i:=fun n (hx:Aa w n)=>VL s fm g c z A B E h o cg cf p n (C.later hx) D (hx.cell V) (F.later hx) (G.later hx) H I l k jo K J
  have q:∀f,(BJ f g c B E).length<=1099511627776:=fun f=>by
   have h1:=Jb (f:=f) (g:=g) (E:=E) I.2.2.2.2.2.2.2.2.2 H k;have h2:∀x,(Cn x).length<=1000:=fun x=>by simp [Cn]
   have h3:=h2 (CB (AK (DS f g c B E)));unfold BJ;rw [jO];omega
  obtain ⟨N,O,P,Q,R,S⟩:=UJ (fm:=fm) (h:=h) (cg:=cg) (cf:=cf) W M K q;have m:=fun n=>Wy (Ef fm g c B E h o cg cf p) n N O P Q R S
  rw [y.out];unfold DC at a i;generalize Ef fm g c B E h o cg cf p=T at *;generalize Hu T=FA at *;obtain ⟨z1,z2,z3,z4,z5,z6⟩:=T;unfold N7 at i;unfold BP at m i;simp only at *;clear C F G l H I N O P Q R S y q hq Z K q3 q4 M;go_enter Tryz.func40,Tryz.ntmps40;go_wp2_with fail;refine (a _).mono ?_;rintro e Y ⟨rfl,b⟩;have d:=jp (b.step_alloc (.cells #[.int .i64 (h:Int),.int .i64 (o:Int),.int .i64 (cg:Int),.int .i64 (cf:Int),.int .i64 (p:Int)] 105));have U:=jp (i _ d.out);clear b a i;go_wp2_with fail;refine U.out.mono ?_;rintro e w2 ⟨rfl,r⟩;have u:=jp ((d.out.trans r).step_alloc (.cells #[.int .i64 (z1:Int),.int .i64 (z2:Int),.int .i64 (z3:Int),.int .i64 (z4:Int),.int .i64 (z5:Int),.string (Ai z6)] 109));clear r U d;go_wp2_with fail;refine (m _).mono ?_;rintro e w3 ⟨rfl,v⟩;have L:=jp (u.out.trans v);clear v m u;go_wp2;go_ret;exact ⟨rfl,L.out⟩
theorem YU {P:Program} {l:Array Oper} {o:Oper} {a:Act} {w:jj} {K:Act->World->Prop} {Q:Exit->Act->World->Prop} {E:Prop}
  (C:o.guard=none) (s x:Operand) (t:TypeId) (r:o.op=Op.call {callee:=Callee.builtin Builtin.append,args:=#[s,x],argTypes:=#[t,t]})
  (base:Nat) (e:TypeId) (i:TypeInfo) (z:ju) (b f:Nat) (D:P.underlying t=some (.slice e)) (F:P.info? e=some i) (G:i.zero=some z) (H:i.size=b) (I:i.bytes=f) (J:z.cells.size=b) (L:0<b)
  (v:ju) (n:Nat) (y:List Value) (M:a.eval s=v) (p:w.ownsRow base e b v n y)
  (A:Addr) (m c:Nat) (d:List Value) (hx:a.eval x= .slice (some A) m c) (N:d.length=m * b) (O:∀j u,d[j]?=some u->w.cell? (A.add j)=some u) (B:∀u∈d,u.oneCell'=true)
  (R:n+m<=maxLen) (S:(n+m) * f<=140737488355328) (g:base<=w.heap.size)
  (T:∀k w',w'.ownsRow base e b k (n+m) (y++d)->w.grownBy w' v.ownBlock->(k.ownBlock=v.ownBlock\/k.ownBlock=some w.heap.size)->K (a.put o.dst k) w'):
  if Region.wanted o (yielded l a.tmps)=true then Oper.wp P o a w K Q else E:=by
 have U:Region.wanted o (yielded l a.tmps)=true:=by simp [Region.wanted,C]
 rw [if_pos U];obtain ⟨k,w',q,V,W,X⟩:=OY (P:=P) w base t o.type e i z b f D F G H I J L v n y p A m c d N O B R S g;unfold Oper.wp;simp [execOp,r,resolve,invoke,builtin,M,hx,q,Result.andThen];exact T k w' V W X
theorem Tryz.infoPP:(Tryz.prog.info? 157).map (fun i=>(i.zero,i.size,i.bytes))=some (some (.pointer none),1,8):=by kernel_rfl
def JH (s:Nat) (w w':jj):Prop:=(∀o,o≠9->w'.cell? ⟨s,o,none⟩=w.cell? ⟨s,o,none⟩)/\∀o,w'.frozen? ⟨s,o,none⟩=w.frozen? ⟨s,o,none⟩
theorem JH.of {s:Nat} {w b:jj} (h:b.heap[s]?=w.heap[s]?) (u:ju):JH s w (b.setCell ⟨s,9,none⟩ u):=
 ⟨fun o c=>(Ad (Or.inr (fun e=>c e.symm))).trans (World.cell?_of_block (a:=⟨s,o,none⟩) h),fun o=>(Ag _ _ _ _).trans (World.frozen?_of_block (a:=⟨s,o,none⟩) h)⟩
def UE (s:Nat) (b:ju) (c:jr) (fm:Nat) (w:jj) (e:Ending) (w':jj):Prop:=
 ∃p a,e= .returned (.tuple #[.int .i64 (c.length:Int),.int .i64 0])/\Ab (s::gl b) w w'/\w.heap.size<=p/\Ae p 208 (FW fm) w'/\w'.cell? ⟨s,9,none⟩=some a/\Eu w' a (c++[p])/\(∀k,a.ownBlock=some k->k∈gl b\/w.heap.size<=k)/\(∀k,a.ownBlock=some k->k≠p/\k≠s)/\JH s w w'
theorem XM (s fm:Nat) (T:ju) (d:jr) (w:jj) (U:w.cell? ⟨s,9,none⟩=some T) (f9:w.frozen? ⟨s,9,none⟩=false) (V:Eu w T d) (hl:d.length<4) (hf:1<=fm/\fm<=3) (hs:T.ownBlock≠some s):
  Calls Tryz.prog 70 #[.pointer (some ⟨s,0,none⟩),.int .i64 (fm:Int)] w (UE s T d fm w):=by
 obtain ⟨i0,hi,W,X,Y⟩:=info_parts Tryz.infoPP;have C:=fun wx=>Kx (fm:Int) wx
 obtain ⟨B,cap,rfl, -⟩:=V.open;have HL:=jp V;have D:=jp hs;have Z:s<w.heap.size:=jF U;have af:decide ((4:Int)<=(d.length:Int))=false:=jK jo;clear V hs;go_enter Tryz.func70,Tryz.ntmps70;go_wp2_with fail;refine (C _).mono ?_;rintro e w1 ⟨x,rfl,rfl,hx⟩;have aa:x=true:=hx.2 (by unfold Hd;omega);subst aa;clear hx C;go_wp2_with fail
 go_region_law (first
   | (go_simp; go_at_call 118; go_wp2_with (go_at_call 118; refine Calls.mono (Qp fm _) ?_; rintro e l ⟨rfl, m, t, E⟩; have o : Aa w l := (by first | exact m | exact (jB (jD w)).trans m); have ab : Hid (Ae w.heap.size 208 (FW fm) l) := E; have v := jp o; have k9 := o.cell U; have l9 := o.frozen U f9; have ag : w.heap.size < l.heap.size := (by first | exact t | simpa using t); have ad : s < l.heap.size := jo; have ae : s ≠ l.heap.size := jo; clear m E o t))
   | (refine YU rfl (.tmp 19) (.tmp 22) 49 rfl 0 157 i0 (.pointer none) 1 8 Tryz.underlying49 hi W X Y rfl ji (.slice B d.length cap) d.length (Iq d) (by simp [Act.eval]) (World.ownsRow.alloc (HL.out.later v.out) _) ⟨l.heap.size, 0, none⟩ 1 1 [.pointer (some ⟨w.heap.size, 0, none⟩)] (by simp [Act.eval]) rfl (Fz _ _ _ _ js) (fun u hu => by simp at hu; subst hu; rfl) (by unfold maxLen; omega) jo jo ?_
      intro v6 q g c r
      obtain ⟨f, b, rfl⟩ := B8 g
      have n9 : q.cell? ⟨s, 9, none⟩ = some (.slice B d.length cap) := (World.cell?_of_block (a := ⟨s, 9, none⟩) (c.block s (by simp; omega) (fun e => D.out e.symm))).trans (((jD l).step_alloc _).cell k9)
      have o9 : q.frozen? ⟨s, 9, none⟩ = false := (World.frozen?_of_block (a := ⟨s, 9, none⟩) (c.block s (by simp; omega) (fun e => D.out e.symm))).trans (((jD l).step_alloc _).frozen k9 l9)
      have F : Hid (q.heap[s]? = w.heap[s]?) := (c.block s (by simp; omega) (fun e => D.out e.symm)).trans ((v.out.step_alloc _).block s Z)
      have G := jp g
      have y := jp c
      have H := jp r
      clear g c r))
 all_goals
  have hX:Aa w (l.alloc (.cells #[.pointer (some ⟨w.heap.size,0,none⟩)] 157)):=v.out.step_alloc _;have z:∀k,(Value.slice B d.length cap).ownBlock=some k->k<w.heap.size:=fun k n=>(World.ownsRow.lt HL.out k n).2
  have I:Ab (s::gl (.slice B d.length cap)) w q:=Pp hX y.out;have J:Ae w.heap.size 208 (FW fm) q:=(ab.out.alloc _).kept (y.out.block w.heap.size jx (fun e=>by have:=z _ e.symm;omega));have K:(l.alloc (.cells #[.pointer (some ⟨w.heap.size,0,none⟩)] 157)).heap.size=l.heap.size+1:=js
  have i:∀k,(Value.slice f (d.length+1) b).ownBlock=some k->((Value.slice B d.length cap).ownBlock=some k/\k<w.heap.size)\/k=l.heap.size+1:=fun k n=>by
   rcases H.out with e|e
   .rw [e] at n;exact Or.inl ⟨n,z k n⟩
   .rw [n] at e;injection e with e
    exact Or.inr (by first|exact e.trans K|(rw [e];simp))
  have L:(Value.slice f (d.length+1) b).ownBlock≠some s:=fun e=>by
   rcases i s e with ⟨M,h2⟩|h
   .exact D.out M
   .omega
  have N:=jp (I.set (p:=⟨s,9,none⟩) js (.slice f (d.length+1) b));have O:=jp (J.setO (a:=⟨s,9,none⟩) jv (.slice f (d.length+1) b));have A:=jp (Bc (u:= .slice f (d.length+1) b) n9)
  have P:Hid (Eu (q.setCell ⟨s,9,none⟩ (.slice f (d.length+1) b)) (.slice f (d.length+1) b) (d++[w.heap.size])):=by
   show World.ownsRow _ _ _ _ _ _ _;have e:Iq (d++[w.heap.size])=Iq d++[.pointer (some ⟨w.heap.size,0,none⟩)]:=by simp [Iq]
   rw [e,jO];exact ownsRow_setCell_other G.out L _
  have Q:Hid (∀k,(Value.slice f (d.length+1) b).ownBlock=some k->k∈gl (.slice B d.length cap)\/w.heap.size<=k):=fun k n=>by
   rcases i k n with ⟨M,h2⟩|h
   .exact Or.inl (by unfold gl;rw [M];simp)
   .exact Or.inr jo
  have R:Hid (∀k,(Value.slice f (d.length+1) b).ownBlock=some k->k≠w.heap.size/\k≠s):=fun k n=>by
   rcases i k n with ⟨M,h2⟩|h
   .exact ⟨jo,fun e=>D.out (by rw [<-e];exact M)⟩
   .exact ⟨jo,jo⟩
  have S:Hid (JH s w (q.setCell ⟨s,9,none⟩ (.slice f (d.length+1) b))):=JH.of F.out _
  have ac:Hid (s<(q.setCell ⟨s,9,none⟩ (.slice f (d.length+1) b)).heap.size):=by
   show s<_;exact World.block_lt_of_cell? _ _ A.out
  clear F;clear hX I J i L G y H K z;go_wp2;go_ret2
  first
  |exact ⟨w.heap.size,_,rfl,N.out,jH _,O.out,A.out,P.out,Q.out,R.out,S.out⟩
  |exact ⟨w.heap.size,_,rfl,N.out.drew,jH _,O.out.bel ((jD _).step_drew),((jD _).step_drew).cell A.out,P.out.later ((jD _).step_drew),Q.out,R.out,S.out.bel ac.out ((jD _).step_drew)⟩
theorem Xm (s:Nat) (f:Int) (w:jj) (c:¬(1<=f/\f<=3)):
  Calls Tryz.prog 70 #[.pointer (some ⟨s,0,none⟩),.int .i64 f] w (F4 w (-1,1)):=by
 have a:=fun d=>Kx f d
 go_enter Tryz.func70,Tryz.ntmps70;go_wp2_with fail;refine (a _).mono ?_;rintro e g ⟨x,rfl,rfl,hx⟩
 have b:x=false:=by
  cases x
  .rfl
  .exact absurd (hx.1 rfl) c
 subst b;clear hx a c;go_wp2;go_ret2;exact ⟨rfl,jq⟩
theorem Ue (s:Nat) (f:Int) (d:ju) (b:jr) (w:jj) (m:w.cell? ⟨s,9,none⟩=some d) (g:Eu w d b) (n:4<=b.length) (i:1<=f/\f<=3):
  Calls Tryz.prog 70 #[.pointer (some ⟨s,0,none⟩),.int .i64 f] w (F4 w (-1,6)):=by
 have a:=fun k=>Kx f k
 obtain ⟨o,cap,rfl, -⟩:=g.open;have l:decide ((4:Int)<=(b.length:Int))=true:=jL jo;clear g;go_enter Tryz.func70,Tryz.ntmps70;go_wp2_with fail;refine (a _).mono ?_;rintro e p ⟨x,rfl,rfl,hx⟩;have c:x=true:=hx.2 i;subst c;clear hx a i;go_wp2;go_ret2;exact ⟨rfl,jq⟩
end Go.Proofs.YtpapdkhjdelfcaaGreat
