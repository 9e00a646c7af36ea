import Derived.Test.YtpapdkhjdelfcaaGreatMAS
import Derived.Deep.RegionHeld3
namespace Go.Proofs.YtpapdkhjdelfcaaGreat
open Go.RowKit
set_option maxRecDepth 100000
set_option maxHeartbeats 4000000
theorem Na {w w':jj} {q fm g cg cf:Nat} (b:Aa w w') (l:w.cell? ⟨q,1,none⟩=some (.int .i64 (g:Int))) (m:w.cell? ⟨q,0,none⟩=some (.int .i64 (fm:Int))) (d:w.cell? ⟨q,10,none⟩=some (.int .i64 (cg:Int))) (f:w.cell? ⟨q,11,none⟩=some (.int .i64 (cf:Int))) (a:∃k i,Ae w.heap.size k i w'/\i.size=5):Aa w w'/\w'.cell? ⟨q,1,none⟩=some (.int .i64 (g:Int))/\w'.cell? ⟨q,0,none⟩=some (.int .i64 (fm:Int))/\w'.cell? ⟨q,10,none⟩=some (.int .i64 (cg:Int))/\w'.cell? ⟨q,11,none⟩=some (.int .i64 (cf:Int))/\w'.cell? ⟨w.heap.size,0,none⟩=some (AZ w' w.heap.size 0)/\w'.cell? ⟨w.heap.size,1,none⟩=some (AZ w' w.heap.size 1)/\w'.cell? ⟨w.heap.size,2,none⟩=some (AZ w' w.heap.size 2)/\w'.cell? ⟨w.heap.size,3,none⟩=some (AZ w' w.heap.size 3)/\w'.cell? ⟨w.heap.size,4,none⟩=some (AZ w' w.heap.size 4)/\w'.frozen? ⟨w.heap.size,0,none⟩=false/\w'.frozen? ⟨w.heap.size,1,none⟩=false/\w'.frozen? ⟨w.heap.size,2,none⟩=false/\w'.frozen? ⟨w.heap.size,3,none⟩=false/\w'.frozen? ⟨w.heap.size,4,none⟩=false:=by
 obtain ⟨k,i,a,c⟩:=a;exact ⟨b,b.cell l,b.cell m,b.cell d,b.cell f,five a c 0 jo,five a c 1 jo,five a c 2 jo,five a c 3 jo,five a c 4 jo,a.free 0,a.free 1,a.free 2,a.free 3,a.free 4⟩
theorem VX {w a d:jj} {q fm g cg cf:Nat} {u0 u1 u2 u3 u4:ju} {i:TypeId} (k:Aa w a) (l:Ae w.heap.size i #[.int .i64 0,.int .i64 0,.int .i64 0,.int .i64 0,.int .i64 0] a) (m:w.cell? ⟨q,1,none⟩=some (.int .i64 (g:Int))) (n:w.cell? ⟨q,0,none⟩=some (.int .i64 (fm:Int))) (b:w.cell? ⟨q,10,none⟩=some (.int .i64 (cg:Int))) (c:w.cell? ⟨q,11,none⟩=some (.int .i64 (cf:Int))) (f:Aa a d):(fun w'=>Aa w w'/\w'.cell? ⟨q,1,none⟩=some (.int .i64 (g:Int))/\w'.cell? ⟨q,0,none⟩=some (.int .i64 (fm:Int))/\w'.cell? ⟨q,10,none⟩=some (.int .i64 (cg:Int))/\w'.cell? ⟨q,11,none⟩=some (.int .i64 (cf:Int))/\w'.cell? ⟨w.heap.size,0,none⟩=some (AZ w' w.heap.size 0)/\w'.cell? ⟨w.heap.size,1,none⟩=some (AZ w' w.heap.size 1)/\w'.cell? ⟨w.heap.size,2,none⟩=some (AZ w' w.heap.size 2)/\w'.cell? ⟨w.heap.size,3,none⟩=some (AZ w' w.heap.size 3)/\w'.cell? ⟨w.heap.size,4,none⟩=some (AZ w' w.heap.size 4)/\w'.frozen? ⟨w.heap.size,0,none⟩=false/\w'.frozen? ⟨w.heap.size,1,none⟩=false/\w'.frozen? ⟨w.heap.size,2,none⟩=false/\w'.frozen? ⟨w.heap.size,3,none⟩=false/\w'.frozen? ⟨w.heap.size,4,none⟩=false) (((((d.setCell ⟨w.heap.size,0,none⟩ u0).setCell ⟨w.heap.size,1,none⟩ u1).setCell ⟨w.heap.size,2,none⟩ u2).setCell ⟨w.heap.size,3,none⟩ u3).setCell ⟨w.heap.size,4,none⟩ u4):=
 Na ((k.trans f).sets5 (jH _) _ _ _ _ _) m n b c ⟨_,_,(((((l.bel f).set 0 u0 rfl).set 1 u1 rfl).set 2 u2 rfl).set 3 u3 rfl).set 4 u4 rfl,js⟩
theorem Uc (q fm g:Nat) (c:Ac) (x y:ju) (cg cf z:Nat) (n:ju) (A:Bool) (T:List TP) (w:jj) (h:Ae q 208 (BD fm g c x y cg cf z n A) w) (r:AN w n T) (M:T.length<=65536):
  Calls Tryz.prog 132 #[.pointer (some ⟨q,0,none⟩)] w (RQ w (DC g fm cg cf (Dq T))):=by
 unfold BD at h;have s:w.cell? ⟨q,0,none⟩=some (.int .i64 (fm:Int)):=h.cell 0 rfl;have t:w.cell? ⟨q,1,none⟩=some (.int .i64 (g:Int)):=h.cell 1 rfl;have l:w.cell? ⟨q,10,none⟩=some (.int .i64 (cg:Int)):=h.cell 10 rfl;have m:w.cell? ⟨q,11,none⟩=some (.int .i64 (cf:Int)):=h.cell 11 rfl;have o:w.cell? ⟨q,13,none⟩=some (n):=h.cell 13 rfl;have p:=fun u (hx:Aa w u)=>Sx q n T u (hx.cell o) (r.later hx) jo
 obtain ⟨i,b⟩:∃i,i=w.alloc (.cells #[.int .i64 0,.int .i64 0,.int .i64 0,.int .i64 0,.int .i64 0] 105):=⟨_,rfl⟩;have d:Aa w i:=by rw [b];exact (jD w).step_alloc _
 have f:Hid (Ae w.heap.size 105 #[.int .i64 0,.int .i64 0,.int .i64 0,.int .i64 0,.int .i64 0] i):=by show Ae _ _ _ i;rw [b];exact Ae.new _ _ _
 have B:=h.lt;have C:q≠w.heap.size:=jo
 generalize Dq T=D at *;clear h r;go_enter Tryz.func132,Tryz.ntmps132;go_wp2_with fail;rw [<-b];clear b;go_region_held3 (fun w'=>Aa w w'/\w'.cell? ⟨q,1,none⟩=some (.int .i64 (g:Int))/\w'.cell? ⟨q,0,none⟩=some (.int .i64 (fm:Int))/\w'.cell? ⟨q,10,none⟩=some (.int .i64 (cg:Int))/\w'.cell? ⟨q,11,none⟩=some (.int .i64 (cf:Int))/\w'.cell? ⟨w.heap.size,0,none⟩=some (AZ w' w.heap.size 0)/\w'.cell? ⟨w.heap.size,1,none⟩=some (AZ w' w.heap.size 1)/\w'.cell? ⟨w.heap.size,2,none⟩=some (AZ w' w.heap.size 2)/\w'.cell? ⟨w.heap.size,3,none⟩=some (AZ w' w.heap.size 3)/\w'.cell? ⟨w.heap.size,4,none⟩=some (AZ w' w.heap.size 4)/\w'.frozen? ⟨w.heap.size,0,none⟩=false/\w'.frozen? ⟨w.heap.size,1,none⟩=false/\w'.frozen? ⟨w.heap.size,2,none⟩=false/\w'.frozen? ⟨w.heap.size,3,none⟩=false/\w'.frozen? ⟨w.heap.size,4,none⟩=false) ((first|with_reducible exact VX d f.out t s l m j8|exact Na (d.trans j8) t s l m ⟨_,_,f.out.bel j8,rfl⟩)) ((go_at_call 173;refine Calls.mono (p _ (d.trans j8)) ?_;rintro e E ⟨rfl,F⟩));have a:Aa i E:=j8
 have k:=f.out.bel a;have G:=k.cell 0 rfl;have H:=k.cell 1 rfl;have I:=k.cell 2 rfl;have J:=k.cell 3 rfl;have K:=k.cell 4 rfl;have L:=jp (d.trans a);clear k a;go_wp2;exact bodyPost_ret (v:=DC g fm cg cf D) (by simp [DC,results,Tryz.results132,go_sem,G,H,I,J,K]) rfl ⟨rfl,L.out.sets5 (jH _) _ _ _ _ _⟩
variable {vL:Value}
theorem M3 (c:Ac):An c []=[]:=by rw [An,if_pos];simp [As]
def NF (c:Ac) (w:jj) (e:Ending) (w':jj):Prop:=∃q,e= .returned (.tuple #[.pointer (some ⟨q,0,none⟩),.int .i64 0])/\Aa w w'/\w.heap.size<=q/\q<w'.heap.size/\∀M:jr,q∈M->Bt (.slice none 0 0) M q c [] 0 w'
theorem PG (c:Ac) (w:jj) (o:c.OK):
  Calls Tryz.prog 19 #[.agg c.cells] w (NF c w):=by
 have k:=fun p=>OI c p
 unfold NF;have l:=M3 c;have q:=jp o;unfold Bt JA;rw [l];unfold Cx;obtain ⟨alg,i,d,f,key,b⟩:=c;simp only [Ac.cells] at *;clear o l;go_enter Tryz.func19,Tryz.ntmps19;go_wp2_with fail;refine (k _).mono ?_;rintro e g ⟨x,rfl,a,hx⟩;have n:x=true:=hx.2 q.out;subst n;have m:Aa w g:=(Aa.step_alloc (jD w) _).trans a;have s:g.cell? ⟨w.heap.size,0,none⟩=some (.int .i64 alg):=a.cell js;have t:g.cell? ⟨w.heap.size,1,none⟩=some (.int .i64 i):=a.cell js;have u:g.cell? ⟨w.heap.size,2,none⟩=some (.int .i64 d):=a.cell js;have v:g.cell? ⟨w.heap.size,3,none⟩=some (.int .i64 f):=a.cell js;have y:g.cell? ⟨w.heap.size,4,none⟩=some (.string key):=a.cell js;have z:g.cell? ⟨w.heap.size,5,none⟩=some (.int .i64 b):=a.cell js;clear hx a k;go_wp2;go_ret2;refine ⟨g.heap.size,rfl,m.step_alloc _,m.size,js,fun M r=>⟨r,.slice none 0 0,.slice none 0 0,⟨⟨js,js,js,js,js,js⟩,js,js⟩,js,⟨⟨js,js,js,js,js,js,js,js,js⟩,js,js⟩,Or.inl ⟨rfl,rfl,rfl⟩,Or.inl ⟨rfl,rfl,rfl⟩⟩⟩
theorem XU (a b:jt) (w:jj) (f:a.size<=1099511627776) (g:b.size<=1099511627776):
  Calls Tryz.prog 56 #[.string a,.string b] w (Ff w (DN a.data.toList b.data.toList)):=by
 have H:=jp (Vf a b w f g);generalize DN a.data.toList b.data.toList=x at *;go_enter Tryz.func56,Tryz.ntmps56;go_wp2_with fail;refine H.out.mono ?_;rintro e i ⟨rfl,c⟩;have d:=jp c;clear c H;go_wp2;go_ret2;exact ⟨rfl,d.out⟩
theorem QE (a b:jt) (w:jj) (f:a.size<=1099511627776) (g:b.size<=1099511627776):
  Calls Tryz.prog 58 #[.string a,.string b] w (Ff w (DH a.data.toList b.data.toList)):=by
 have H:=jp (W7 a b w f g);generalize DH a.data.toList b.data.toList=x at *;go_enter Tryz.func58,Tryz.ntmps58;go_wp2_with fail;refine H.out.mono ?_;rintro e i ⟨rfl,c⟩;have d:=jp c;clear c H;go_wp2;go_ret2;exact ⟨rfl,d.out⟩
def Jm (l:jy):List UInt8×List UInt8×Nat×Int:=match Bj l with
 |some (_,g,c,B,E)=>(BJ 1 g c B E,BJ 2 g c B E,g,0)
 |none=>([],[],0,9)
def Ww (w:jj) (x:List UInt8×List UInt8×Nat×Int) (e:Ending) (w':jj):Prop:=e= .returned (.tuple #[.string (Ai x.1),.string (Ai x.2.1),.int .i64 (x.2.2.1:Int),.int .i64 x.2.2.2])/\Aa w w'
theorem Sh (t:jt) (w:jj) (U:t.size<=1099511627776):
  Calls Tryz.prog 54 #[.string t] w (Ww w (Jm t.data.toList)):=by
 have b:=fun x=>JL t x U
 rcases hi1:Bj t.data.toList with _|⟨f,g,c,B,E⟩
 .rw [hi1] at b;unfold FH CU at b;have z:Hid (Jm t.data.toList=([],[],0,9)):=by show _=_;unfold Jm;rw [hi1]
  rw [z.out];go_enter Tryz.func54,Tryz.ntmps54;go_wp2_with fail;refine (b _).mono ?_;rintro e y ⟨l,rfl⟩;go_wp2;exact bodyPost_ret (v:= .tuple #[.string (Ai []),.string (Ai []),.int .i64 0,.int .i64 9]) (by simp [results,Tryz.results54,go_sem,Zcn]) rfl ⟨rfl,l.step_alloc _⟩
 .rw [hi1] at b;unfold FH D8 at b;have a:=Hp hi1;have V:=a.len;have W:=a.right.1.2;have z:Hid (Jm t.data.toList=(BJ 1 g c B E,BJ 2 g c B E,g,0)):=by show _=_;unfold Jm;rw [hi1]
  have o:=fun A C x D F=>Js 1 g c B E A C x jo jo a.tok D a.good.1 F (fun e G=>(a.ents e G).1) jo
  have p:=fun A C x D F=>Js 2 g c B E A C x jo jo a.tok D a.good.1 F (fun e G=>(a.ents e G).1) jo
  unfold DW at o p;rw [z.out];generalize BJ 1 g c B E=X at *;generalize BJ 2 g c B E=Y at *;clear a z hi1;go_enter Tryz.func54,Tryz.ntmps54;go_wp2_with fail;refine (b _).mono ?_;rintro e y ⟨l,Z,aa,rfl,d,i⟩;obtain ⟨L,M,rfl⟩:=B8 d;obtain ⟨N,O,rfl⟩:=B8 i;have P:=jp (AJ.pool d);have Q:=jp (AS.ents i);have H:=jp l;obtain ⟨u,m⟩:∃u,u=y.alloc (.cells #[.int .i64 (f:Int),.int .i64 (g:Int),.int .i64 c.alg,.int .i64 c.slots,.int .i64 c.points,.int .i64 c.probes,.string c.key,.int .i64 c.formats,.slice L B.length M,.slice N E.length O] 135):=⟨_,rfl⟩;have n:Aa y u:=by rw [m];exact (jD y).step_alloc _
  have HX:Hid (Ae y.heap.size 135 #[.int .i64 (f:Int),.int .i64 (g:Int),.int .i64 c.alg,.int .i64 c.slots,.int .i64 c.points,.int .i64 c.probes,.string c.key,.int .i64 c.formats,.slice L B.length M,.slice N E.length O] u):=by show Ae _ _ _ u;rw [m];exact Ae.new _ _ _
  have R:=jp (o _ _ u (P.out.later n) (Bv.of (Q.out.later n)));have I:=jp n;clear d i l b o n;go_wp2_with fail;rw [<-m];clear m;refine R.out.mono ?_;rintro e w2 ⟨rfl,q⟩;have k:=HX.out.bel q;have r:=jp (I.out.trans q);have x1:=k.cell 1 rfl;have x2:=k.cell 2 rfl;have x3:=k.cell 3 rfl;have x4:=k.cell 4 rfl;have x5:=k.cell 5 rfl;have x6:=k.cell 6 rfl;have x7:=k.cell 7 rfl;have x8:=k.cell 8 rfl;have x9:=k.cell 9 rfl;have S:=jp (p _ _ w2 (P.out.later r.out) (Bv.of (Q.out.later r.out)));have J:=jp k;clear k q R p;go_wp2_with fail;refine S.out.mono ?_;rintro e w3 ⟨rfl,s⟩;have T:=J.out.bel s;have y1:=T.cell 1 rfl;have K:=jp (H.out.trans (r.out.trans s));clear T s S x1 x2 x3 x4 x5 x6 x7 x8 x9;go_wp2_with fail;go_quiet (fail);go_wp2;exact bodyPost_ret (v:= .tuple #[.string (Ai X),.string (Ai Y),.int .i64 (g:Int),.int .i64 0]) (by simp [results,Tryz.results54,go_sem]) rfl ⟨rfl,K.out.step_drewN _⟩
def Dd (cg cf a g:Nat):Nat:=if a≠3 then a else if cg=g/\cf=1 then 1 else 2
theorem Un (h i cg cf k b g:Nat) (w:jj):
  Calls Tryz.prog 124 #[DC h i cg cf k,.int .i64 (b:Int),.int .i64 (g:Int)] w (D9 w (Dd cg cf b g)):=by
 unfold DC;have a:Hid (Dd cg cf b g=if b≠3 then b else if cg=g/\cf=1 then 1 else 2):=rfl;by_cases c:b=3
 .subst c;rw [if_neg js] at a;by_cases d:cg=g
  .subst d;by_cases f:cf=1
   .subst f;rw [if_pos js] at a;go_enter Tryz.func124,Tryz.ntmps124;go_wp2;go_ret;exact ⟨BO (by rw [a.out];rfl),jq⟩
   .have l:((cf:Int)==1)=false:=by rw [jI];omega
    rw [if_neg (fun h=>f h.2)] at a;go_enter Tryz.func124,Tryz.ntmps124;go_wp2;go_ret;exact ⟨BO (by rw [a.out];rfl),jq⟩
  .have m:((cg:Int)==(g:Int))=false:=by rw [jI];omega
   rw [if_neg (fun h=>d h.1)] at a;go_enter Tryz.func124,Tryz.ntmps124;go_wp2;go_ret;exact ⟨BO (by rw [a.out];rfl),jq⟩
 .have n:((b:Int) !=3)=true:=by rw [bne_iff_ne];omega
  rw [if_pos c] at a;go_enter Tryz.func124,Tryz.ntmps124;go_wp2;go_ret;exact ⟨BO (by rw [a.out]),jq⟩
def I9 (f:Int) (g:Nat) (c:Ac) (B:List BK) (E:List EI):List UInt8×Int:=if 1<=f/\f<=2 then if g=0 then ([],7) else (BJ f.toNat g c B E,0) else ([],11)
theorem YB (q:Nat) (f:Int) (g:Nat) (c:Ac) (o p:ju) (B:List BK) (E:List EI) (w:jj) (D:Cx w q c o p) (t:w.cell? ⟨q,8,none⟩=some (.int .i64 (g:Int))) (r:Am w o B) (s:AR w p E) (v:AL B) (y:c.TOK) (d:∀e∈E,Fp e) (l:E.length<=65536) (F:g<=4611686018427387904):
  Calls Tryz.prog 64 #[.pointer (some ⟨q,0,none⟩),.int .i64 f] w (Ff w (I9 f g c B E)):=by
 have a:=fun u=>Pb f u
 have i:Hid (I9 f g c B E=if 1<=f/\f<=2 then if g=0 then ([],7) else (BJ f.toNat g c B E,0) else ([],11)):=rfl;obtain ⟨⟨G,H,I,J,K,L⟩,M,N⟩:=D;by_cases k:1<=f/\f<=2
 rotate_left
 .rw [if_neg k] at i;go_enter Tryz.func64,Tryz.ntmps64;go_wp2_with fail;refine (a _).mono ?_;rintro e z ⟨x,rfl,rfl,hx⟩
  have b:x=false:=by
   cases x
   .rfl
   .exact absurd (hx.1 rfl) k
  subst b;clear hx a r s d k;go_wp2;go_ret2;rw [i.out];exact ⟨rfl,jq⟩
 rw [if_pos k] at i;obtain ⟨n,rfl⟩:∃n:Nat,f=(n:Int):=⟨f.toNat,jo⟩;by_cases A:g=0
 .subst A;rw [if_pos rfl] at i;replace t:w.cell? ⟨q,8,none⟩=some (.int .i64 0):=t;go_enter Tryz.func64,Tryz.ntmps64;go_wp2_with fail;refine (a _).mono ?_;rintro e z ⟨x,rfl,rfl,hx⟩;have b:x=true:=hx.2 k;subst b;clear hx a r s d k;go_wp2;go_ret2;rw [i.out];exact ⟨rfl,jq⟩
 .rw [if_neg A] at i;have O:((g:Int)==0)=false:=by rw [jI];omega
  have m:=fun u P Q=>Js n g c B E o p u jo F y P v Q d l
  unfold DW at m;rw [Int.toNat_natCast] at i;generalize BJ n g c B E=V at *;have R:=jp r;have S:=jp s;clear r s d v y;go_enter Tryz.func64,Tryz.ntmps64;go_wp2_with fail;refine (a _).mono ?_;rintro e z ⟨x,rfl,rfl,hx⟩;have b:x=true:=hx.2 k;subst b;clear hx a k;go_wp2_with fail;go_region_held3 (fun w'=>Aa w w'/\w'.cell? ⟨q,8,none⟩=some (.int .i64 (g:Int))/\w'.cell? ⟨q,0,none⟩=some (.int .i64 c.alg)/\w'.cell? ⟨q,1,none⟩=some (.int .i64 c.slots)/\w'.cell? ⟨q,2,none⟩=some (.int .i64 c.points)/\w'.cell? ⟨q,3,none⟩=some (.int .i64 c.probes)/\w'.cell? ⟨q,4,none⟩=some (.string c.key)/\w'.cell? ⟨q,5,none⟩=some (.int .i64 c.formats)/\w'.cell? ⟨q,6,none⟩=some (o)/\w'.cell? ⟨q,7,none⟩=some (p)) ((exact ⟨jq,Aa.cell jq t,Aa.cell jq G,Aa.cell jq H,Aa.cell jq I,Aa.cell jq J,Aa.cell jq K,Aa.cell jq L,Aa.cell jq M,Aa.cell jq N⟩)) ((go_at_call 101;refine Calls.mono (m _ (R.out.later jq) (Bv.of (S.out.later jq))) ?_;rintro e C ⟨rfl,T⟩))
  all_goals
   have U:Hid (Aa w C):=by show Aa w C;exact jq
   go_wp2;go_ret2;rw [i.out];exact ⟨rfl,U.out⟩
def Iq (a:jr):List Value:=a.map fun p=> .pointer (some ⟨p,0,none⟩)
def Eu (w:jj) (v:ju) (a:jr):Prop:=w.ownsRow 0 157 1 v a.length (Iq a)
theorem Eu.open {w:jj} {v:ju} {a:jr} (h:Eu w v a):∃f cap,v= .slice f a.length cap/\∀j (d:j<a.length),∃g,f=some ⟨g,0,none⟩/\w.cell? ⟨g,j,none⟩=some (.pointer (some ⟨a[j],0,none⟩)):=by
 rcases h.2 with ⟨c,i⟩|⟨g,cap,k,c,_⟩
 .exact ⟨none,0,by rw [c,i],fun j d=>by omega⟩
 .refine ⟨_,_,c,fun j d=>⟨g,rfl,?_⟩⟩;have:=h.cells (g:=g) (by rw [c];rfl) j (.pointer (some ⟨a[j],0,none⟩)) (by simp [Iq,d]);have b:(⟨g,0,none⟩:Addr).add j=⟨g,j,none⟩:=by unfold Addr.add;split <;>simp_all
  rwa [b] at this
theorem Eu.later {w w':jj} {v:ju} {a:jr} (h:Eu w v a) (k:Aa w w'):Eu w' v a:=CV h k
def Iz (a:jr) (d:Int):Value:= .pointer (if 0<=d then (a[d.toNat]?).map (fun p=>⟨p,0,none⟩) else none)
theorem Wj (q:Nat) (d:Int) (i:ju) (b:jr) (w:jj) (o:w.cell? ⟨q,9,none⟩=some i) (k:Eu w i b):
  Calls Tryz.prog 131 #[.pointer (some ⟨q,0,none⟩),.int .i64 d] w (RQ w (Iz b d)):=by
 obtain ⟨r,cap,rfl,c⟩:=k.open;have a:Hid (Iz b d= .pointer (if 0<=d then (b[d.toNat]?).map (fun p=>⟨p,0,none⟩) else none)):=rfl;clear k;by_cases f:0<=d
 .rw [if_pos f] at a;obtain ⟨n,rfl⟩:∃n:Nat,d=(n:Int):=⟨d.toNat,jo⟩;rw [Int.toNat_natCast] at a;clear f;by_cases l:n<b.length
  .rw [jG l] at a;obtain ⟨g,rfl,s⟩:=c n l;clear c;generalize b[n]=t at *;go_enter Tryz.func131,Tryz.ntmps131;go_wp2;go_ret;exact ⟨by rw [a.out];rfl,jq⟩
  .rw [List.getElem?_eq_none jo] at a;clear c;go_enter Tryz.func131,Tryz.ntmps131;go_wp2;go_ret;exact ⟨by rw [a.out];rfl,jq⟩
 .rw [if_neg f] at a;have m:d<0:=jo
  clear c f;go_enter Tryz.func131,Tryz.ntmps131;go_wp2;go_ret;exact ⟨by rw [a.out];rfl,jq⟩
def IS (g fm cg cf:Nat) (T:List TP):List UInt8:=AK (DL g fm cg cf (Dq T))++Cn (CB (AK (DL g fm cg cf (Dq T))))
theorem OS:∀(T:List TP) (k:Nat),GB T k<=k+T.length
 |[],k=>by simp [GB]
 |x::T,k=>by
  rw [GB];have:=OS T (k+1);split <;>simp <;>omega
theorem Sb (q:Nat) (d:Int) (w:jj) (c:Calls Tryz.prog 131 #[.pointer (some ⟨q,0,none⟩),.int .i64 d] w (RQ w (.pointer none))):
  Calls Tryz.prog 77 #[.pointer (some ⟨q,0,none⟩),.int .i64 d] w (Ff w ([],4)):=by
 have H:=jp c;clear c;go_enter Tryz.func77,Tryz.ntmps77;go_wp2_with fail;refine H.out.mono ?_;rintro e f ⟨rfl,a⟩;have b:=jp a;clear a H;go_wp2;go_ret2;exact ⟨rfl,b.out⟩
theorem QY (q p:Nat) (d:Int) (fm g:Nat) (c:Ac) (s t:ju) (cg cf u:Nat) (m:ju) (v:Bool) (T:List TP) (w:jj) (x:Calls Tryz.prog 131 #[.pointer (some ⟨q,0,none⟩),.int .i64 d] w (RQ w (.pointer (some ⟨p,0,none⟩)))) (h:Ae p 208 (BD fm g c s t cg cf u m v) w) (y:AN w m T) (A:T.length<=65536) (B:g<=4611686018427387904) (C:fm<=4611686018427387904) (D:cg<=4611686018427387904) (E:cf<=4611686018427387904):
  Calls Tryz.prog 77 #[.pointer (some ⟨q,0,none⟩),.int .i64 d] w (Ff w (IS g fm cg cf T,0)):=by
 have H:=jp x;have n:=fun l (hx:Aa w l)=>Uc p fm g c s t cg cf u m v T l (h.bel hx) (y.later hx) A
 have F:Dq T<=4611686018427387904:=by have:=OS T 0;unfold Dq;omega
 have o:=fun l=>SF g fm cg cf (Dq T) l B C D E F
 unfold IS;unfold DC at n;generalize AK (DL g fm cg cf (Dq T))++Cn (CB (AK (DL g fm cg cf (Dq T))))=J at *;generalize Dq T=G at *;clear x h y;go_enter Tryz.func77,Tryz.ntmps77;go_wp2_with fail;refine H.out.mono ?_;rintro e I ⟨rfl,a⟩;have z:=jp (n I a);have b:=jp a;clear a H n;go_wp2_with fail;refine z.out.mono ?_;rintro e K ⟨rfl,f⟩;have i:=jp ((b.out.trans f).step_alloc (.cells #[.int .i64 (g:Int),.int .i64 (fm:Int),.int .i64 (cg:Int),.int .i64 (cf:Int),.int .i64 (G:Int)] 105));clear f z b;go_wp2_with fail;refine (o _).mono ?_;rintro e L ⟨rfl,k⟩;have r:=jp (i.out.trans k);clear k i;go_wp2;go_ret2;exact ⟨rfl,r.out⟩
theorem UK (q:Nat) (d:Int) (w:jj) (c:Calls Tryz.prog 131 #[.pointer (some ⟨q,0,none⟩),.int .i64 d] w (RQ w (.pointer none))):
  Calls Tryz.prog 82 #[.pointer (some ⟨q,0,none⟩),.int .i64 d] w (F4 w (0,4)):=by
 have H:=jp c;clear c;go_enter Tryz.func82,Tryz.ntmps82;go_wp2_with fail;refine H.out.mono ?_;rintro e f ⟨rfl,a⟩;have b:=jp a;clear a H;go_wp2;go_ret2;exact ⟨rfl,b.out⟩
theorem Td (q p:Nat) (d:Int) (fm g:Nat) (c:Ac) (l m:ju) (cg cf n:Nat) (o:ju) (i:Bool) (w:jj) (r:Calls Tryz.prog 131 #[.pointer (some ⟨q,0,none⟩),.int .i64 d] w (RQ w (.pointer (some ⟨p,0,none⟩)))) (h:Ae p 208 (BD fm g c l m cg cf n o i) w):
  Calls Tryz.prog 82 #[.pointer (some ⟨q,0,none⟩),.int .i64 d] w (F4 w (Ix g i)):=by
 have H:=jp r;have s:=fun t (hx:Aa w t)=>YN p fm g c l m cg cf n o i t (h.bel hx)
 generalize Ix g i=x at *;clear r h;go_enter Tryz.func82,Tryz.ntmps82;go_wp2_with fail;refine H.out.mono ?_;rintro e v ⟨rfl,a⟩;have u:=jp (s v a);have b:=jp a;clear a H s;go_wp2_with fail;refine u.out.mono ?_;rintro e y ⟨rfl,f⟩;have k:=jp (b.out.trans f);clear f u b;go_wp2;go_ret2;exact ⟨rfl,k.out⟩
theorem Vu (q:Nat) (d:Int) (k:jt) (w:jj) (c:Calls Tryz.prog 131 #[.pointer (some ⟨q,0,none⟩),.int .i64 d] w (RQ w (.pointer none))):
  Calls Tryz.prog 84 #[.pointer (some ⟨q,0,none⟩),.int .i64 d,.string k] w (EH w (⟨#[]⟩,4)):=by
 have H:=jp c;clear c;go_enter Tryz.func84,Tryz.ntmps84;go_wp2_with fail;refine H.out.mono ?_;rintro e f ⟨rfl,a⟩;have b:=jp a;clear a H;go_wp2;go_ret2;exact ⟨rfl,b.out⟩
theorem QU (q p:Nat) (d:Int) (k:jt) (fm g:Nat) (c:Ac) (l m:ju) (cg cf o:Nat) (r:ju) (s:Bool) (B:List BK) (E:List EI) (w:jj) (t:Calls Tryz.prog 131 #[.pointer (some ⟨q,0,none⟩),.int .i64 d] w (RQ w (.pointer (some ⟨p,0,none⟩)))) (h:Ae p 208 (BD fm g c l m cg cf o r s) w) (u:Am w l B) (v:AR w m E) (b:E.length<=65536) (x:g≠0->c.TOK) (C:k.size<=4611686018427386000):
  Calls Tryz.prog 84 #[.pointer (some ⟨q,0,none⟩),.int .i64 d,.string k] w (EH w (IR g c B E k)):=by
 have H:=jp t;have y:=fun z (hx:Aa w z)=>XZ p fm g c l m cg cf o r s B E k z (h.bel hx) (u.later hx) (v.later hx) b x C
 generalize IR g c B E k=F at *;clear t h u v x;go_enter Tryz.func84,Tryz.ntmps84;go_wp2_with fail;refine H.out.mono ?_;rintro e D ⟨rfl,a⟩;have A:=jp (y D a);have f:=jp a;clear a H y;go_wp2_with fail;refine A.out.mono ?_;rintro e G ⟨rfl,i⟩;have n:=jp (f.out.trans i);clear i A f;go_wp2;go_ret2;exact ⟨rfl,n.out⟩
def KM (w:jj) (a:Int) (e:Ending) (w':jj):Prop:=e= .returned (.int .i64 a)/\Aa w w'
def QZ (p:Nat) (a:Array Value) (w:jj) (e:Ending) (w':jj):Prop:=e= .returned (.int .i64 0)/\Ab [p] w w'/\Ae p 208 a w'
theorem VM (q:Nat) (d:Int) (w:jj) (c:Calls Tryz.prog 131 #[.pointer (some ⟨q,0,none⟩),.int .i64 d] w (RQ w (.pointer none))):
  Calls Tryz.prog 81 #[.pointer (some ⟨q,0,none⟩),.int .i64 d] w (KM w 4):=by
 have H:=jp c;clear c;go_enter Tryz.func81,Tryz.ntmps81;go_wp2_with fail;refine H.out.mono ?_;rintro e f ⟨rfl,a⟩;have b:=jp a;clear a H;go_wp2;go_ret;exact ⟨rfl,b.out⟩
theorem Xc (q p:Nat) (d:Int) (fm g:Nat) (c:Ac) (m n:ju) (cg cf o:Nat) (r:ju) (s:Bool) (w:jj) (t:Calls Tryz.prog 131 #[.pointer (some ⟨q,0,none⟩),.int .i64 d] w (RQ w (.pointer (some ⟨p,0,none⟩)))) (h:Ae p 208 (BD fm g c m n cg cf o r s) w):
  Calls Tryz.prog 81 #[.pointer (some ⟨q,0,none⟩),.int .i64 d] w (QZ p (FW fm) w):=by
 have H:=jp t;have u:=fun v (hx:Aa w v)=>Wh p fm g c m n cg cf o r s v (h.bel hx)
 generalize FW fm=z at *;clear t h;go_enter Tryz.func81,Tryz.ntmps81;go_wp2_with fail;refine H.out.mono ?_;rintro e y ⟨rfl,a⟩;have x:=jp (u y a);have b:=jp a;clear a H u;go_wp2_with fail;refine x.out.mono ?_;rintro e A ⟨rfl,f,i⟩;have k:=jp ((Ab.of_bel (M:=[p]) b.out).trans f);have l:=jp i;clear f i x b;go_wp2;go_ret;exact ⟨rfl,k.out,l.out⟩
theorem Ox {l:jy} {a:Bl} (h:DY l=some a):EO a/\a.2.1<4294967296/\a.2.2.1<256/\a.2.2.2.1<65536/\a.2.2.2.2.1<65536/\a.2.2.2.2.2.length<=48:=by
 unfold DY at h;cases p:CQ l with
 |none=>rw [p] at h;cases h
 |some b=>
  rw [p] at h;have o:(Hw (b.length - 11) (Az b)).bind (fun y=>haveI:=Zgd y.1.2;if BW (some y.2)=true/\y.1.1=[65]/\EO y.1.2 then some y.1.2 else none)=some a:=h;cases d:Hw (b.length - 11) (Az b) with
  |none=>rw [d] at o;cases o
  |some y=>
   rw [d] at o;have i:(haveI:=Zgd y.1.2;if BW (some y.2)=true/\y.1.1=[65]/\EO y.1.2 then some y.1.2 else none)=some a:=o;split at i
   .rename_i m;injection i with i
    subst i;refine ⟨m.2.2,?_⟩;obtain ⟨t,w, -,d⟩:=Da d;obtain ⟨k,x, -,d⟩:=Da d;split at d
    .obtain ⟨g,z,q,d⟩:=Da d;obtain ⟨f,A,r,d⟩:=Da d;obtain ⟨c,B,u,d⟩:=Da d;obtain ⟨n,C,v,d⟩:=Da d;obtain ⟨s,D, -,d⟩:=Da d;unfold DT at d;injection d with d
     subst d;refine ⟨(Dx q).1,(Dx r).1,(Dx u).1,(Dx v).1,?_⟩;rcases m.2.2 with h|h|h
     .cases h
     .cases h
     .exact h.2.2
    .unfold DT at d;injection d with d
     subst d;exact ⟨js,js,js,js,js⟩
   .cases i
def Ra (p fm g:Nat) (c:Ac) (d f:ju) (cg cf i:Nat) (k:ju) (l:Bool) (T:List TP) (o:Option Bl) (w:jj) (e:Ending) (w':jj):Prop:=e= .returned (.int .i64 0)/\match o with
 |none=>Aa w w'
 |some a=>∃b,Aa w b/\My p fm g c d f cg cf i k l T a b (.returned (.tuple #[])) w'
theorem UA (q:Nat) (d:Int) (t:jt) (w:jj) (c:Calls Tryz.prog 131 #[.pointer (some ⟨q,0,none⟩),.int .i64 d] w (RQ w (.pointer none))):
  Calls Tryz.prog 79 #[.pointer (some ⟨q,0,none⟩),.int .i64 d,.string t] w (KM w 4):=by
 have H:=jp c;clear c;go_enter Tryz.func79,Tryz.ntmps79;go_wp2_with fail;refine H.out.mono ?_;rintro e f ⟨rfl,a⟩;have b:=jp a;clear a H;go_wp2;go_ret;exact ⟨rfl,b.out⟩
theorem WJ (q p:Nat) (d:Int) (t:jt) (fm g:Nat) (c:Ac) (u v:ju) (cg cf y:Nat) (o:ju) (z:Bool) (T:List TP) (w:jj) (C:Calls Tryz.prog 131 #[.pointer (some ⟨q,0,none⟩),.int .i64 d] w (RQ w (.pointer (some ⟨p,0,none⟩)))) (h:Ae p 208 (BD fm g c u v cg cf y o z) w) (D:AN w o T) (G:T.length<=65535) (I:∀x∈T,x.2.length<=65536) (A:fm<256) (J:t.size<=1099511627776):
  Calls Tryz.prog 79 #[.pointer (some ⟨q,0,none⟩),.int .i64 d,.string t] w (Ra p fm g c u v cg cf y o z T (DY t.data.toList) w):=by
 have H:=jp C;have b:=fun r=>Wl t r J
 have HX:=jp h;have K:=jp D;clear C h D;rcases ho:DY t.data.toList with _|a
 .rw [ho] at b;unfold Lz CR BP at b;go_enter Tryz.func79,Tryz.ntmps79;go_wp2_with fail;refine H.out.mono ?_;rintro e L ⟨rfl,f⟩;have i:=jp f;clear f H;go_wp2_with fail;refine (b _).mono ?_;rintro e M ⟨rfl,l⟩;have m:=jp ((i.out.trans l).step_alloc (.cells #[.int .i64 0,.int .i64 0,.int .i64 0,.int .i64 0,.int .i64 0,.string (Ai [])] 109));clear l b i;go_wp2;go_ret;exact ⟨rfl,m.out⟩
 .rw [ho] at b;have s:=Ox ho
  have E:a.1=0\/a.1=1\/a.1=2:=by
   rcases s.1 with h|h|h
   .exact Or.inl h
   .exact Or.inr (Or.inr h)
   .exact Or.inr (Or.inl h.1)
  have n:=fun r (hx:Aa w r)=>WQ p fm g c u v cg cf y o z T a r (HX.out.bel hx) (K.out.later hx) G I (by have:=s.2.2.2.2.2;omega) s.2.2.1 A E
  unfold Lz CR BP at b;unfold GZ at n;clear s E ho;obtain ⟨k,N,O,P,Q,R⟩:=a;simp only at *;go_enter Tryz.func79,Tryz.ntmps79;go_wp2_with fail;refine H.out.mono ?_;rintro e L ⟨rfl,f⟩;have i:=jp f;clear f H;go_wp2_with fail;refine (b _).mono ?_;rintro e M ⟨rfl,l⟩;have m:=jp ((i.out.trans l).step_alloc (.cells #[.int .i64 (k:Int),.int .i64 (N:Int),.int .i64 (O:Int),.int .i64 (P:Int),.int .i64 (Q:Int),.string (Ai R)] 109));have F:=jp (n _ m.out);clear l b i n;go_wp2_with fail;refine F.out.mono ?_;rintro e U B;obtain ⟨rfl, -⟩:=id B;have S:=jp B;clear B F;go_wp2;go_ret;exact ⟨rfl,_,m.out,S.out⟩
end Go.Proofs.YtpapdkhjdelfcaaGreat
