import Derived.Test.YtpapdkhjdelfcaaGreatMAK
namespace Go.Proofs.YtpapdkhjdelfcaaGreat
open Go.RowKit
set_option maxRecDepth 100000
set_option maxHeartbeats 4000000
def IN (c:Ac) (B:List BK) (E:List EI):Prop:=(E.length:Int)=GM c B/\(∀e∈E,Fr B e.2)/\(Fq c.alg=true->GC E/\Gs c B E)
theorem WL (q:Nat) (c:Ac) (l m:ju) (B:List BK) (E:List EI) (w:jj) (hT:Cx w q c l m) (N:Am w l B) (O:AR w m E) (P:AL B) (t:E.length<=1048576) (Q:c.TOK):
  Calls Tryz.prog 184 #[.pointer (some ⟨q,0,none⟩)] w (Hv (IN c B E) w):=by
 have R:=fun b hx=>SL c B l b hx P Q
 have C:=fun x b (S:Cx b q c l m) (T:Am b l B)=>WV q c l m B x b S T
 have U:=fun b (h:AR b m E)=>VJ E m b h t
 have V:=fun b (S:Cx b q c l m) (T:Am b l B) (h3:AR b m E)=>Th q c l m B E b S T h3 P t Q
 have W:=fun b=>Lu c.alg b
 have A:Hid (IN c B E↔(E.length:Int)=GM c B/\(∀e∈E,Fr B e.2)/\(Fq c.alg=true->GC E/\Gs c B E)):=Iff.rfl;generalize GM c B=X at *;generalize Fq c.alg=hp at *;generalize IN c B E=RT at *;generalize GC E=RE at *;generalize Gs c B E=AE at *;have HT:=jp hT;have Y:=jp N;have HE:=jp O;obtain ⟨⟨t0,t1,t2,t3,t4,t5⟩,t6,Z⟩:=hT;obtain ⟨aP,D,aa, -⟩:=N.open;obtain ⟨aE,F,ab,G⟩:=O.open;subst aa ab;obtain ⟨alg,z,o,p,key,f⟩:=c;simp only [Ac.cells] at *;clear N O Q P;go_enter Tryz.func184,Tryz.ntmps184;go_wp2_with fail;go_region_held3 (fun w'=>Aa w w'/\w'.cell? ⟨q,0,none⟩=some (.int .i64 alg)/\w'.cell? ⟨q,1,none⟩=some (.int .i64 z)/\w'.cell? ⟨q,2,none⟩=some (.int .i64 o)/\w'.cell? ⟨q,3,none⟩=some (.int .i64 p)/\w'.cell? ⟨q,4,none⟩=some (.string key)/\w'.cell? ⟨q,5,none⟩=some (.int .i64 f)/\w'.cell? ⟨q,6,none⟩=some (.slice aP B.length D)/\w'.cell? ⟨q,7,none⟩=some (.slice aE E.length F)) ((exact ⟨jq,Aa.cell jq t0,Aa.cell jq t1,Aa.cell jq t2,Aa.cell jq t3,Aa.cell jq t4,Aa.cell jq t5,Aa.cell jq t6,Aa.cell jq Z⟩)) ((go_at_call 203;refine (R _ (Y.out.later jq)).mono ?_;rintro e w9 ⟨rfl,af⟩));have s:Hid (Aa w w9):=by show Aa w w9;exact jq
 have z7:=s.out.cell Z;cases hq:((E.length:Int) !=X)
 rotate_left
 .have K:Hid (¬(E.length:Int)=X):=by show ¬_;simpa using hq
  go_wp2;go_ret;exact ⟨false,rfl,s.out,⟨fun h=>(by cases h),fun h=>absurd (A.out.1 h).1 K.out⟩⟩
 .have K:Hid ((E.length:Int)=X):=by show _=_;simpa using hq
  clear hq;go_wp2;go_loopg [25] E.length (fun r n wr=>Aa w wr/\∃k:Nat,r=E.length - k/\k<=E.length/\n= .int .i64 k/\∀j (h:j<E.length),j<k->Fr B E[j].2)
  case atStart=>exact ⟨s.out,0,jo,jo,rfl,fun j h hj=>by omega⟩
  case round=>
   obtain ⟨u,k,hr,hk,rfl,hA⟩:=hrel;have L:=jp hA;clear hA s z7;by_cases H:k<E.length
   .obtain ⟨g,rfl,c0,c1⟩:=G k H;have ag:=u.cell c0;have ah:=u.cell c1;have HN:Hid (RT->Fr B E[k].2):=fun h=>(A.out.1 h).2.1 _ (jJ H)
    have M:Hid (Fr B E[k].2->∀j (h:j<E.length),j<k+1->Fr B E[j].2):=fun h0 j h hj=>by
     by_cases ac:j=k
     .subst ac;exact h0
     .exact L.out j h jo
    have ad:=C E[k].2;clear L c0 c1;generalize E[k].1=pt at *;generalize E[k].2=ow at *;go_wp2_with fail;refine (ad _ (HT.out.later (u.step_alloc _)) (Y.out.later (u.step_alloc _))).mono ?_;rintro e w2 ⟨x,rfl,i,hx⟩;have HX:=jp hx;have a:=jp ((u.step_alloc _).trans i);clear hx i;cases x
    .go_wp2;go_ret;exact ⟨false,rfl,a.out,⟨fun h=>(by cases h),fun h=>by have:=HX.out.2 (HN.out h);cases this⟩⟩
    .go_wp2;go_roundg (E.length - (k+1))
     case measure=>omega
     case rel=>exact ⟨a.out,k+1,rfl,jo,by go_num,M.out (HX.out.1 js)⟩
   .have v:Hid (∀e∈E,Fr B e.2):=fun e he=>by
     obtain ⟨j,hj,rfl⟩:=List.getElem_of_mem he;exact L.out j hj jo
    have s0:=u.cell t0
    have HB:=jp u
    clear L G C u
    go_wp2_with fail
    refine (W _).mono ?_
    rintro e w2 ⟨rfl,i⟩
    have a:=jp (HB.out.trans i)
    have s7:=a.out.cell Z
    clear i HB s0
    cases hp
    .go_wp2
     go_ret
     exact ⟨true,rfl,a.out,⟨fun _=>A.out.2 ⟨K.out,v.out,fun h=>by simp at h⟩,fun _=>rfl⟩⟩
    .go_wp2_with fail
     refine (U _ (HE.out.later a.out)).mono ?_
     rintro e w3 ⟨x,rfl,I,hx⟩
     have HX:=jp hx
     have d:=jp (a.out.trans I)
     clear hx I a s7
     cases x
     .go_wp2
      go_ret
      exact ⟨false,rfl,d.out,⟨fun h=>(by cases h),fun h=>by have:=HX.out.2 ((A.out.1 h).2.2 js).1;cases this⟩⟩
     .go_wp2_with fail
      refine (V _ (HT.out.later d.out) (Y.out.later d.out) (HE.out.later d.out)).mono ?_
      rintro e w4 ⟨y,rfl,J,hy⟩
      have M:=jp hy
      have ae:=jp (d.out.trans J)
      clear hy J d
      go_wp2
      go_ret
      exact ⟨y,rfl,ae.out,⟨fun h=>A.out.2 ⟨K.out,v.out,fun _=>⟨HX.out.1 js,M.out.1 h⟩⟩,fun h=>M.out.2 ((A.out.1 h).2.2 js).2⟩⟩
def DR (g:Nat) (c:Ac) (B:List BK) (E:List EI):Prop:=(1<=g/\g<=1073741824)/\IN c B E
theorem Pa (g:Nat) (c:Ac) (d f:ju) (B:List BK) (E:List EI) (w:jj) (s:Am w d B) (t:AR w f E) (u:AL B) (i:E.length<=1048576) (v:c.TOK):
  Calls Tryz.prog 151 #[.int .i64 (g:Int),DW c d f] w (Hv (DR g c B E) w):=by
 have k:=fun o=>RP (g:Int) o
 have p:=fun o C D F=>WL w.heap.size c d f B E o C D F u i v
 have q:Hid (DR g c B E↔(1<=g/\g<=1073741824)/\IN c B E):=Iff.rfl;generalize DR g c B E=J at *;generalize IN c B E=K at *;obtain ⟨n,a⟩:∃n,n=w.alloc (.cells #[.int .i64 c.alg,.int .i64 c.slots,.int .i64 c.points,.int .i64 c.probes,.string c.key,.int .i64 c.formats,d,f] 48):=⟨_,rfl⟩;have b:Aa w n:=by rw [a];exact (jD w).step_alloc _
 have G:Hid (Cx n w.heap.size c d f):=by
  show Cx _ _ _ _ _;have X:=Ae.new w 48 #[.int .i64 c.alg,.int .i64 c.slots,.int .i64 c.points,.int .i64 c.probes,.string c.key,.int .i64 c.formats,d,f];rw [<-a] at X;exact ⟨⟨X.cell 0 rfl,X.cell 1 rfl,X.cell 2 rfl,X.cell 3 rfl,X.cell 4 rfl,X.cell 5 rfl⟩,X.cell 6 rfl,X.cell 7 rfl⟩
 have H:=jp (s.later b);have I:=jp (t.later b);have l:=jp b;clear s t b u v;unfold DW;go_enter Tryz.func151,Tryz.ntmps151;go_wp2_with fail;rw [<-a];refine (k _).mono ?_;rintro e L ⟨x,rfl,rfl,hx⟩;have HX:Hid (x=true↔1<=g/\g<=1073741824):=⟨fun h=>by have:=hx.1 h;unfold Hd at this;omega,fun h=>hx.2 (by unfold Hd;omega)⟩;clear hx k a;cases x
 .go_wp2;go_ret;exact ⟨false,rfl,l.out,⟨fun h=>(by cases h),fun h=>by have:=HX.out.2 (q.out.1 h).1;cases this⟩⟩
 .go_wp2_with fail;refine (p _ G.out H.out I.out).mono ?_;rintro e M ⟨y,rfl,m,z⟩;have A:=jp z;have r:=jp (l.out.trans m);clear z m;go_wp2;go_ret;exact ⟨y,rfl,r.out,⟨fun h=>q.out.2 ⟨HX.out.1 js,A.out.1 h⟩,fun h=>A.out.2 (q.out.1 h).2⟩⟩
def BJ (f g:Nat) (c:Ac) (B:List BK) (E:List EI):List UInt8:=AK (DS f g c B E)++Cn (CB (AK (DS f g c B E)))
theorem Jb {f g:Nat} {c:Ac} {B:List BK} {E:List EI} (a:c.key.size=16) (b:AL B) (d:E.length<=65536):(AK (DS f g c B E)).length<=8389600:=jX (Gi _ _ (jH _)) (M7 a b d)
theorem Js (f g:Nat) (c:Ac) (B:List BK) (E:List EI) (o p:ju) (w:jj) (A:f<=4611686018427387904) (C:g<=4611686018427387904) (q:c.TOK) (y:Am w o B) (r:AL B) (z:Bv w p E) (b:∀e∈E,Fp e) (a:E.length<=65536):
  Calls Tryz.prog 101 #[.int .i64 (f:Int),.int .i64 (g:Int),DW c o p] w (DE w (BJ f g c B E)):=by
 have s:=fun t D F=>M9 f g c B E o p t A C q D r F b a
 have G:=Jb (f:=f) (g:=g) (E:=E) q.2.2.2.2.2.2.2.2.2 r a;have d:=fun t=>Jd (Ai (AK (DS f g c B E))) t (by simp [Ai,ByteArray.size];omega)
 rw [Fs] at d;unfold BJ;generalize AK (DS f g c B E)=K at *;have H:=jp y;have I:=jp z;unfold DW at *;obtain ⟨alg,u,m,n,key,i⟩:=c;simp only at *;clear q y z r b;go_enter Tryz.func101,Tryz.ntmps101;go_wp2_with fail;refine (s _ (H.out.later jq) (I.out.later jq)).mono ?_;rintro e J ⟨rfl,k⟩;have v:Hid (Aa w J):=((jD w).step_alloc _).trans k;clear k;go_wp2_with fail;refine (d _).mono ?_;rintro e L ⟨rfl,l⟩;have x:=jp (v.out.trans l);clear l;go_wp2;go_ret;exact ⟨rfl,x.out⟩
theorem St.setO {b:jj} {p:Nat} {o:Option (List Bool)} {q:Nat} {tq:TypeId} {qc:Array Value} {W:jj} (h:St b p o q tq qc W) {a:Addr} (c:b.heap.size<=a.block) (d:a.block≠p) (f:a.block≠q) (u:ju):St b p o q tq qc (W.setCell a u):=
 ⟨h.1.setN c u,h.2.1.kept (by simp only [World.setCell,Array.getElem?_modify,if_neg d]),h.2.2.1.setO f u,h.2.2.2⟩
theorem Rs.setO {p:Nat} {o:Option (List Bool)} {W:jj} (h:Rs p o W) {a:Addr} (b:a.block≠p) (u:ju):Rs p o (W.setCell a u):=h.kept (by simp only [World.setCell,Array.getElem?_modify,if_neg b])
def D8 (f g:Nat) (c:Ac) (a b:ju):Value:= .agg #[.int .i64 (f:Int),.int .i64 (g:Int),.int .i64 c.alg,.int .i64 c.slots,.int .i64 c.points,.int .i64 c.probes,.string c.key,.int .i64 c.formats,a,b]
def Im:List Bool->Option ((Nat×Nat×Ac)×List Bool):=Bo (A9 8) fun f=>Bo (A9 8) fun a=>Bo (A9 32) fun g=>Bo (A9 16) fun s=>Bo (A9 8) fun pt=>Bo (A9 8) fun b=>Bo (DU 16) fun k=>DT (f,g,⟨(a:Int),(s:Int),(pt:Int),(b:Int),Ai k,0⟩)
def Vy (p:Nat) (o:Option (List Bool)) (w:jj) (e:Ending) (w':jj):Prop:=
 ∃(f g:Nat) (c:Ac) (o':Option (List Bool)),e= .returned (D8 f g c (.slice none 0 0) (.slice none 0 0))/\Ab [p] w w'/\Rs p o' w'/\o.bind Im=o'.map (Prod.mk (f,g,c))/\g<4294967296/\f<256
theorem VO (p:Nat) (o:Option (List Bool)) (w:jj) (h:Rs p o w):
  Calls Tryz.prog 147 #[.pointer (some ⟨p,0,none⟩)] w (Vy p o w):=by
 have hp:=h.lt;obtain ⟨q,r⟩:∃q,q=w.alloc (.cells #[.int .i64 0,.int .i64 0,.int .i64 0,.int .i64 0,.int .i64 0,.int .i64 0,.string ⟨#[]⟩,.int .i64 0,.slice none 0 0,.slice none 0 0] 135):=⟨_,rfl⟩;obtain ⟨z,s⟩:∃z,z=q.alloc (.cells #[.int .i64 0,.int .i64 0,.int .i64 0,.int .i64 0,.int .i64 0,.int .i64 0,.string ⟨#[]⟩,.int .i64 0,.slice none 0 0,.slice none 0 0] 135):=⟨_,rfl⟩;have v:q.heap.size=w.heap.size+1:=by rw [r];simp
 have Q:z.heap.size=w.heap.size+1+1:=by rw [s];simp [v]
 have x:Aa w q:=by rw [r];exact (jD w).step_alloc _
 have y:Aa q z:=by rw [s];exact (jD q).step_alloc _
 have A:Hid (Ae w.heap.size 135 #[.int .i64 0,.int .i64 0,.int .i64 0,.int .i64 0,.int .i64 0,.int .i64 0,.string ⟨#[]⟩,.int .i64 0,.slice none 0 0,.slice none 0 0] q):=by show Ae _ _ _ q;rw [r];exact Ae.new _ _ _
 have c:Hid (Ae (w.heap.size+1) 135 #[.int .i64 0,.int .i64 0,.int .i64 0,.int .i64 0,.int .i64 0,.int .i64 0,.string ⟨#[]⟩,.int .i64 0,.slice none 0 0,.slice none 0 0] z):=by show Ae _ _ _ z;rw [<-v,s];exact Ae.new _ _ _
 have b:=jp (St.new (tq:=30) (qc:=#[.int .i64 0,.int .i64 0,.int .i64 0,.int .i64 0,.string ⟨#[]⟩,.int .i64 0]) (Ab.of_bel (M:=[p]) y) (h.kept ((x.trans y).block p h.lt)));rw [Q] at b;replace c:=jp (c.out.alloc (.cells #[.int .i64 0,.int .i64 0,.int .i64 0,.int .i64 0,.string ⟨#[]⟩,.int .i64 0] 30));have R:=jp x;have B:=jp v;clear h x y;go_enter Tryz.func147,Tryz.ntmps147;have V:=jp (Cp p _ 1 _ b.out.rs jo);go_wp2_with fail;rw [<-r,<-s];refine V.out.mono ?_;rintro e v0 ⟨f,o1,rfl,d,m,t,C⟩;replace b:=jp (b.out.read d m);replace c:=jp (c.out.but d jx);have g0:=c.out.cell 0 rfl;have k0:=c.out.free 0;replace b:=jp (b.out.setO (a:=⟨w.heap.size+1,0,none⟩) (by have:=B.out;simp only;omega) jv js (.int .i64 (f:Int)));replace c:=jp (c.out.set 0 (.int .i64 (f:Int)) (cs':=#[.int .i64 (f:Int),.int .i64 0,.int .i64 0,.int .i64 0,.int .i64 0,.int .i64 0,.string ⟨#[]⟩,.int .i64 0,.slice none 0 0,.slice none 0 0]) rfl);have W:=jp C;clear d m C V;have HF:Hid (f<256):=t;clear t;have X:=jp (Cp p _ 1 _ b.out.rs jo);go_wp2_with fail;refine X.out.mono ?_;rintro e v1 ⟨a,o2,rfl,d,m,D,E⟩;replace b:=jp (b.out.read d m);replace c:=jp (c.out.but d jx);have g1:=b.out.box.cell 0 rfl;have k1:=b.out.box.free 0;replace b:=jp (b.out.put 0 (.int .i64 (a:Int)) (qc':=#[.int .i64 (a:Int),.int .i64 0,.int .i64 0,.int .i64 0,.string ⟨#[]⟩,.int .i64 0]) rfl);replace c:=jp (c.out.setO (a:=⟨w.heap.size+1+1,0,none⟩) js (.int .i64 (a:Int)));have Y:=jp E;clear d m E X D;have Z:=jp (Cp p _ 4 _ b.out.rs jo);go_wp2_with fail;refine Z.out.mono ?_;rintro e v2 ⟨g,o3,rfl,d,m,u,F⟩;replace b:=jp (b.out.read d m);replace c:=jp (c.out.but d jx);have g2:=c.out.cell 1 rfl;have k2:=c.out.free 1;replace b:=jp (b.out.setO (a:=⟨w.heap.size+1,1,none⟩) (by have:=B.out;simp only;omega) jv js (.int .i64 (g:Int)));replace c:=jp (c.out.set 1 (.int .i64 (g:Int)) (cs':=#[.int .i64 (f:Int),.int .i64 (g:Int),.int .i64 0,.int .i64 0,.int .i64 0,.int .i64 0,.string ⟨#[]⟩,.int .i64 0,.slice none 0 0,.slice none 0 0]) rfl);have P2:=jp F;clear d m F Z;have HG:Hid (g<4294967296):=u;clear u;have K3:=jp (Cp p _ 2 _ b.out.rs jo);go_wp2_with fail;refine K3.out.mono ?_;rintro e v3 ⟨sl,o4,rfl,d,m,G,H⟩;replace b:=jp (b.out.read d m);replace c:=jp (c.out.but d jx);have g3:=b.out.box.cell 1 rfl;have k3:=b.out.box.free 1;replace b:=jp (b.out.put 1 (.int .i64 (sl:Int)) (qc':=#[.int .i64 (a:Int),.int .i64 (sl:Int),.int .i64 0,.int .i64 0,.string ⟨#[]⟩,.int .i64 0]) rfl);replace c:=jp (c.out.setO (a:=⟨w.heap.size+1+1,1,none⟩) js (.int .i64 (sl:Int)));have P3:=jp H;clear d m H K3 G;have K4:=jp (Cp p _ 1 _ b.out.rs jo);go_wp2_with fail;refine K4.out.mono ?_;rintro e v4 ⟨pt,o5,rfl,d,m,I,J⟩
 replace b:=jp (b.out.read d m);replace c:=jp (c.out.but d jx);have g4:=b.out.box.cell 2 rfl;have k4:=b.out.box.free 2;replace b:=jp (b.out.put 2 (.int .i64 (pt:Int)) (qc':=#[.int .i64 (a:Int),.int .i64 (sl:Int),.int .i64 (pt:Int),.int .i64 0,.string ⟨#[]⟩,.int .i64 0]) rfl);replace c:=jp (c.out.setO (a:=⟨w.heap.size+1+1,2,none⟩) js (.int .i64 (pt:Int)));have P4:=jp J;clear d m J K4 I;have K5:=jp (Cp p _ 1 _ b.out.rs jo);go_wp2_with fail;refine K5.out.mono ?_;rintro e v5 ⟨K,o6,rfl,d,m,L,N⟩;replace b:=jp (b.out.read d m);replace c:=jp (c.out.but d jx);have g5:=b.out.box.cell 3 rfl;have k5:=b.out.box.free 3;replace b:=jp (b.out.put 3 (.int .i64 (K:Int)) (qc':=#[.int .i64 (a:Int),.int .i64 (sl:Int),.int .i64 (pt:Int),.int .i64 (K:Int),.string ⟨#[]⟩,.int .i64 0]) rfl);replace c:=jp (c.out.setO (a:=⟨w.heap.size+1+1,3,none⟩) js (.int .i64 (K:Int)));have P5:=jp N;clear d m N K5 L;have K6:=jp (Hf p _ 16 _ b.out.rs jo);go_wp2_with fail;refine K6.out.mono ?_;rintro e v6 ⟨k,o7,rfl,d,m, -,O⟩;have P:=b.out.read d m;have i:=c.out.but d jx;have l:=A.out.but P.1 jx;have n:=P.box;have m0:=i.cell 0 rfl;have n0:=i.free 0;have m1:=i.cell 1 rfl;have n1:=i.free 1;have m2:=i.cell 2 rfl;have n2:=i.free 2;have m3:=i.cell 3 rfl;have n3:=i.free 3;have m4:=i.cell 4 rfl;have n4:=i.free 4;have m5:=i.cell 5 rfl;have n5:=i.free 5;have m6:=i.cell 6 rfl;have n6:=i.free 6;have m7:=i.cell 7 rfl;have n7:=i.free 7;have m8:=i.cell 8 rfl;have n8:=i.free 8;have m9:=i.cell 9 rfl;have n9:=i.free 9;have r0:=l.cell 0 rfl;have s0:=l.free 0;have r1:=l.cell 1 rfl;have s1:=l.free 1;have r2:=l.cell 2 rfl;have s2:=l.free 2;have r3:=l.cell 3 rfl;have s3:=l.free 3;have r4:=l.cell 4 rfl;have s4:=l.free 4;have r5:=l.cell 5 rfl;have s5:=l.free 5;have r6:=l.cell 6 rfl;have s6:=l.free 6;have r7:=l.cell 7 rfl;have s7:=l.free 7;have r8:=l.cell 8 rfl;have s8:=l.free 8;have r9:=l.cell 9 rfl;have s9:=l.free 9;have c0:=n.cell 0 rfl;have d0:=n.free 0;have c1:=n.cell 1 rfl;have d1:=n.free 1;have c2:=n.cell 2 rfl;have d2:=n.free 2;have c3:=n.cell 3 rfl;have d3:=n.free 3;have c4:=n.cell 4 rfl;have d4:=n.free 4;have c5:=n.cell 5 rfl;have d5:=n.free 5;have S:Hid (o.bind Im=o7.map (Prod.mk (f,g,⟨(a:Int),(sl:Int),(pt:Int),(K:Int),Ai k,0⟩))):=Bw W.out (Bw Y.out (Bw P2.out (Bw P3.out (Bw P4.out (Bw P5.out (Bw O (GK _)))))));have T:=jp ((Ab.of_bel R.out).trans P.1);have U:=jp P.rs;clear P i l n d m O W Y P2 P3 P4 P5 A b c K6;go_wp2;refine bodyPost_ret (by simp [results,Tryz.results147,go_sem,r0,r1,r2,r3,r4,r5,r6,r7,r8,r9];rfl) rfl ⟨f,g,⟨(a:Int),(sl:Int),(pt:Int),(K:Int),Ai k,0⟩,o7,rfl,?_,?_,S.out,HG.out,HF.out⟩
 .iterate 17 (refine Ab.setN ?_ jv _)
  exact T.out
 .iterate 17 (refine Rs.setO ?_ jv _)
  exact U.out
def JE:List Bool->Option ((List UInt8×Nat×Nat×Nat×Nat×Nat)×List Bool):=
 Bo (DU 1) fun t=>Bo (A9 32) fun h=>Bo (A9 8) fun f=>Bo (A9 32) fun c=>Bo (A9 8) fun m=>Bo (A9 16) fun n=>DT (t,h,f,c,m,n)
def ZcB (l:jy):Option (Nat×Nat×Nat×Nat×Nat):=(CQ l).bind fun b=>(JE (Az b)).bind fun y=>if BW (some y.2)=true/\y.1.1=[81] then some y.1.2 else none
def DC (h f c m n:Nat):Value:= .agg #[.int .i64 (h:Int),.int .i64 (f:Int),.int .i64 (c:Int),.int .i64 (m:Int),.int .i64 (n:Int)]
def Fl:Option (Nat×Nat×Nat×Nat×Nat)->Value
 |some (h,f,c,m,n)=> .tuple #[DC h f c m n,.bool true]
 |none=> .tuple #[DC 0 0 0 0 0,.bool false]
def ME (w:jj) (o:Option (Nat×Nat×Nat×Nat×Nat)) (e:Ending) (w':jj):Prop:=e= .returned (Fl o)/\Aa w w'
theorem VF {l:jy} (h:CQ l=none):ZcB l=none:=by simp [ZcB,h]
theorem UY {l b:jy} {o:Option (List Bool)} {t:jy} {h f c m n:Nat} (d:CQ l=some b) (g:(some (Az b)).bind JE=o.map (Prod.mk (t,h,f,c,m,n))):ZcB l=if BW o=true/\t=[81] then some (h,f,c,m,n) else none:=by
 have a:JE (Az b)=o.map (Prod.mk (t,h,f,c,m,n)):=g;rw [ZcB,d,Option.bind_some,a];cases o with
 |none=>simp [BW]
 |some X=>rfl
theorem UM (t:jt) (w:jj) (ht:t.size<=1099511627776):
  Calls Tryz.prog 71 #[.string t] w (ME w (ZcB t.data.toList)):=by
 have G:=jp (Ae.new w 105 #[.int .i64 0,.int .i64 0,.int .i64 0,.int .i64 0,.int .i64 0]);cases hO:CQ t.data.toList with
 |none=>
  rw [VF hO];have C:=fun wx=>GT t wx ht
  rw [hO] at C;unfold Ga Gr at C;go_enter Tryz.func71,Tryz.ntmps71;go_wp2_with fail;refine (C _).mono ?_;rintro e w1 ⟨rfl,i⟩;have r:=G.out.bel i;have K:=r.cell 0 rfl;have f0:=r.free 0;have L:=r.cell 1 rfl;have f1:=r.free 1;have M:=r.cell 2 rfl;have f2:=r.free 2;have N:=r.cell 3 rfl;have f3:=r.free 3;have O:=r.cell 4 rfl;have f4:=r.free 4;have ac:Hid (Aa w w1):=((jD w).step_alloc _).trans i;clear r G i C;go_wp2;refine bodyPost_ret (v:=Fl none) (by simp [Fl,DC,results,Tryz.results71,go_sem,K,L,M,N,O]) rfl ⟨rfl,?_⟩;exact ((((ac.out.step_set (p:=⟨w.heap.size,0,none⟩) (jH _) _).step_set (p:=⟨w.heap.size,1,none⟩) (jH _) _).step_set (p:=⟨w.heap.size,2,none⟩) (jH _) _).step_set (p:=⟨w.heap.size,3,none⟩) (jH _) _).step_set (p:=⟨w.heap.size,4,none⟩) (jH _) _
 |some b=>
  have C:=fun wx=>GT t wx ht
  rw [hO] at C;unfold Ga Gr at C;go_enter Tryz.func71,Tryz.ntmps71;go_wp2_with fail;refine (C _).mono ?_;rintro e w1 ⟨rfl,i⟩;go_wp2_with fail;refine (JQ _ _).mono ?_;rintro e P ⟨rfl,H⟩;obtain ⟨I,D⟩:∃I,I=w.alloc (.cells #[.int .i64 0,.int .i64 0,.int .i64 0,.int .i64 0,.int .i64 0] 105):=⟨_,rfl⟩;rw [<-D] at G i;have Q:=Rs.new P b 161;have R:Ab [P.heap.size] I (P.alloc (.cells #[.string (Ai b),.int .u64 0,.bool false] 161)):=Ab.of_bel ((i.trans H).step_alloc _);have H1:=jp (Hf P.heap.size _ 1 _ Q jo);have af:I.heap.size<=P.heap.size:=(i.trans H).size;have q:Hid (w.heap.size<I.heap.size):=by show _<_;rw [D];simp
  have ad:Hid (Aa w I):=by show Aa w I;rw [D];exact (jD w).step_alloc _
  have S:=jp R;clear i H C Q R D;go_wp2_with fail;refine H1.out.mono ?_;rintro e w3 ⟨l,o1,rfl,T,U,ae,s⟩;have d:=jp (St.new (tq:=105) (qc:=#[.int .i64 0,.int .i64 0,.int .i64 0,.int .i64 0,.int .i64 0]) (S.out.trans T) U);have V:=jp s;clear T U ae s H1 S;have K0:=jp (Cp _ _ 4 _ d.out.rs jo);go_wp2_with fail;refine K0.out.mono ?_;rintro e v0 ⟨h,o2,rfl,k,o, -,W⟩;have u:=d.out.read k o;have g0:=u.box.cell 0 rfl;have k0:=u.box.free 0;replace d:=jp (u.put 0 (.int .i64 (h:Int)) (qc':=#[.int .i64 (h:Int),.int .i64 0,.int .i64 0,.int .i64 0,.int .i64 0]) rfl);have P0:=jp W;clear k o W K0;have J:=jp u;clear u;have K1:=jp (Cp _ _ 1 _ d.out.rs jo);go_wp2_with fail;refine K1.out.mono ?_;rintro e v1 ⟨f,o3,rfl,k,o, -,s⟩;have x:=d.out.read k o;have g1:=x.box.cell 1 rfl;have k1:=x.box.free 1;replace d:=jp (x.put 1 (.int .i64 (f:Int)) (qc':=#[.int .i64 (h:Int),.int .i64 (f:Int),.int .i64 0,.int .i64 0,.int .i64 0]) rfl);have P1:=jp s;clear k o s K1;have J:=jp x;clear x;have K2:=jp (Cp _ _ 4 _ d.out.rs jo);go_wp2_with fail;refine K2.out.mono ?_;rintro e v2 ⟨c,o4,rfl,k,o, -,X⟩;have y:=d.out.read k o;have g2:=y.box.cell 2 rfl;have k2:=y.box.free 2;replace d:=jp (y.put 2 (.int .i64 (c:Int)) (qc':=#[.int .i64 (h:Int),.int .i64 (f:Int),.int .i64 (c:Int),.int .i64 0,.int .i64 0]) rfl);have P2:=jp X;clear k o X K2;have J:=jp y;clear y;have K3:=jp (Cp _ _ 1 _ d.out.rs jo);go_wp2_with fail;refine K3.out.mono ?_;rintro e v3 ⟨m,o5,rfl,k,o, -,Y⟩;have z:=d.out.read k o;have g3:=z.box.cell 3 rfl;have k3:=z.box.free 3;replace d:=jp (z.put 3 (.int .i64 (m:Int)) (qc':=#[.int .i64 (h:Int),.int .i64 (f:Int),.int .i64 (c:Int),.int .i64 (m:Int),.int .i64 0]) rfl);have P3:=jp Y;clear k o Y K3;have J:=jp z;clear z;have K4:=jp (Cp _ _ 2 _ d.out.rs jo);go_wp2_with fail;refine K4.out.mono ?_;rintro e v4 ⟨n,o6,rfl,k,o, -,Z⟩;have A:=d.out.read k o;have g4:=A.box.cell 4 rfl;have k4:=A.box.free 4;replace d:=jp (A.put 4 (.int .i64 (n:Int)) (qc':=#[.int .i64 (h:Int),.int .i64 (f:Int),.int .i64 (c:Int),.int .i64 (m:Int),.int .i64 (n:Int)]) rfl);have P4:=jp Z;clear k o Z K4;have J:=jp A;clear A;have g:Hid (ZcB t.data.toList=if BW o6=true/\l=[81] then some (h,f,c,m,n) else none):=UY hO (Bw V.out (Bw P0.out (Bw P1.out (Bw P2.out (Bw P3.out (Bw P4.out (GK _)))))));have ag:w.heap.size≠w3.heap.size:=by have:=q.out;have:=d.out.2.2.2.1;omega
  have HW:Hid (Aa w (v4.setCell ⟨w3.heap.size,4,none⟩ (.int .i64 (n:Int)))):=Ab.belTo ad.out d.out.1 (fun j hj=>by have:=q.out;simp at hj;omega);have E:((Ai l).toList==[81])=decide (l=[81]):=KK l [81];clear V P0 P1 P2 P3 P4;by_cases hl:l=[81]
  rotate_left
  .have aa:((Ai l).toList==[81])=false:=by rw [E];exact jK hl
   rw [if_neg (fun e=>hl e.2)] at g;have a:=G.out.but J.out.1 (by have:=q.out;simp;omega);have K:=a.cell 0 rfl;have f0:=a.free 0;have L:=a.cell 1 rfl;have f1:=a.free 1;have M:=a.cell 2 rfl;have f2:=a.free 2;have N:=a.cell 3 rfl;have f3:=a.free 3;have O:=a.cell 4 rfl;have f4:=a.free 4;clear a E d hl J G q;go_wp2;rw [g.out];exact bodyPost_ret (v:=Fl none) (by simp [Fl,DC,results,Tryz.results71,go_sem,K,L,M,N,O]) rfl ⟨rfl,HW.out.sets5 (jH _) _ _ _ _ _⟩
  .subst hl;have H9:=jp (I7 _ _ _ d.out.rs);have HQ:=jp d.out.box;have aa:((Ai [81]).toList==[81])=true:=by rw [E];simp
   have ab:=jp (G.out.but d.out.1 (by have:=q.out;simp;omega));clear E d J G q;go_wp2_with fail;refine H9.out.mono ?_;rintro e w9 ⟨rfl,F⟩;have a:=ab.out.bel F;have B:=HQ.out.bel F;have K:=a.cell 0 rfl;have f0:=a.free 0;have L:=a.cell 1 rfl;have f1:=a.free 1;have M:=a.cell 2 rfl;have f2:=a.free 2;have N:=a.cell 3 rfl;have f3:=a.free 3;have O:=a.cell 4 rfl;have f4:=a.free 4;have a0:=B.cell 0 rfl;have b0:=B.free 0;have a1:=B.cell 1 rfl;have b1:=B.free 1;have a2:=B.cell 2 rfl;have b2:=B.free 2;have a3:=B.cell 3 rfl;have b3:=B.free 3;have a4:=B.cell 4 rfl;have b4:=B.free 4;replace HW:=jp (HW.out.trans F);clear a B ab HQ F H9 g0 g1 g2 g3 g4 k0 k1 k2 k3 k4;cases hx:BW o6
   .rw [if_neg (fun e=>by rw [hx] at e;exact absurd e.1 js)] at g;go_wp2;rw [g.out];exact bodyPost_ret (v:=Fl none) (by simp [Fl,DC,results,Tryz.results71,go_sem,K,L,M,N,O]) rfl ⟨rfl,HW.out.sets5 (jH _) _ _ _ _ _⟩
   .rw [if_pos ⟨hx,js⟩] at g;go_wp2;rw [g.out];exact bodyPost_ret (v:=Fl (some (h,f,c,m,n))) (by simp [Fl,DC,results,Tryz.results71,go_sem,K,L,M,N,O]) rfl ⟨rfl,HW.out.sets5 (jH _) _ _ _ _ _⟩
end Go.Proofs.YtpapdkhjdelfcaaGreat
