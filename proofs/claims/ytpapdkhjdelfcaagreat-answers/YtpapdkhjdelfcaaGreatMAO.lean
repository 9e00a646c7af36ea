import Derived.Test.YtpapdkhjdelfcaaGreatMAN
namespace Go.Proofs.YtpapdkhjdelfcaaGreat
open Go.RowKit
set_option maxRecDepth 100000
set_option maxHeartbeats 4000000
def Jw (b s g:Nat):List Bool:=((([]++Az [67,80])++Ax b (8 * 4))++Ax s 32)++Ax g (8 * 4)
def Hl (b s g:Nat) (B:List BK) (ah bh:Nat) (M:List EI) (alg:Int):List Bool:=((((Jw b s g++Gd B)++Ax ah (8 * 2))++Ax bh (8 * 2))++Ax M.length (8 * 2))++EW (CO alg) (CX 1 alg B.length) M
def Hb (b s g:Nat) (a:ju) (ah bh:Nat) (c:ju):Value:= .agg #[.int .i64 (b:Int),.int .u32 (s:Int),.int .i64 (g:Int),a,.int .i64 (ah:Int),.int .i64 (bh:Int),c]
def G6 (b s g:Nat) (B:List BK) (ah bh:Nat) (M:List EI) (alg:Int):List UInt8:=AK (Hl b s g B ah bh M alg)++Cn (CB (AK (Hl b s g B ah bh M alg)))
theorem Ns (b s g:Nat):(Jw b s g).length=112:=by simp [Jw,Bd,Bk]
theorem Zdq {b s g:Nat} {B:List BK} {ah bh:Nat} {M:List EI} {alg:Int} (a:AL B) (d:M.length<=65536):(Hl b s g B ah bh M alg).length<=8389600:=by
 have c:=Ns b s g;have f:=KI a;have i:M.length * (CO alg+CX 1 alg B.length)<=65536 * 128:=Nat.mul_le_mul jo (by have:=GJ alg;have:=Hs 1 alg B.length;omega);simp only [Hl,jO,Bd,L3,c];omega
theorem Yl (b s g:Nat) (B:List BK) (ah bh:Nat) (M:List EI) (alg:Int) (Y Z:ju) (w:jj) (hb:b<=4611686018427387904) (hs:s<4294967296) (hg:g<=4611686018427387904) (aa:ah<=65536) (ab:bh<=65536) (L:Am w Y B) (y:AL B) (N:Bv w Z M) (z:∀e∈M,Fp e) (l:M.length<=65536):
  Calls Tryz.prog 159 #[Hb b s g Y ah bh Z,.int .i64 alg] w (DE w (G6 b s g B ah bh M alg)):=by
 obtain ⟨aP,m,rfl, -⟩:=L.open;obtain ⟨O,k,rfl, -⟩:=id N;have h8:=y.1;have A:=Zdq (b:=b) (s:=s) (g:=g) (ah:=ah) (bh:=bh) (alg:=alg) y l;have P:=Ns b s g;have ac:=KI y;obtain ⟨Q,r⟩:∃X,X=Hl b s g B ah bh M alg:=⟨_,rfl⟩;have t:=jp r;unfold G6;rw [<-r] at A |-;clear r;unfold Hl Jw at t;unfold Jw at P;unfold Hb;obtain ⟨c,d⟩:∃c,c=w.alloc (.cells #[.int .i64 (b:Int),.int .u32 (s:Int),.int .i64 (g:Int),.slice aP B.length m,.int .i64 (ah:Int),.int .i64 (bh:Int),.slice O M.length k] 193):=⟨_,rfl⟩;have R:c.heap.size=w.heap.size+1:=by rw [d];simp
 have u:Aa w c:=by rw [d];exact (jD w).step_alloc _
 have q0:c.cell? ⟨w.heap.size,0,none⟩=some (.int .i64 (b:Int)):=by rw [d];simp
 have q1:c.cell? ⟨w.heap.size,1,none⟩=some (.int .u32 (s:Int)):=by rw [d];simp
 have q2:c.cell? ⟨w.heap.size,2,none⟩=some (.int .i64 (g:Int)):=by rw [d];simp
 have q3:c.cell? ⟨w.heap.size,3,none⟩=some (.slice aP B.length m):=by rw [d];simp
 have q4:c.cell? ⟨w.heap.size,4,none⟩=some (.int .i64 (ah:Int)):=by rw [d];simp
 have q5:c.cell? ⟨w.heap.size,5,none⟩=some (.int .i64 (bh:Int)):=by rw [d];simp
 have q6:c.cell? ⟨w.heap.size,6,none⟩=some (.slice O M.length k):=by rw [d];simp
 have HP:=jp (L.later u);have HE:=jp (N.later u);have S:=jp z;have T:=jp y;have v:=Bb.new c 166;rw [R] at v;have H0:=jp (Gh c (w.heap.size+1) [] ⟨#[67,80]⟩ _ v (by simp [ByteArray.size]));have hU:IntKind.u64.wrap (s:Int)=(s:Int):=by rw [IntKind.wrap_u64];omega
 clear v L N z y;go_enter Tryz.func159,Tryz.ntmps159;go_wp2_with fail;rw [<-d];refine H0.out.mono ?_;rintro e w1 ⟨rfl,a⟩;clear H0;have H1:=jp (Cb c (w.heap.size+1) _ b 4 _ a (by simp [Bk]) jo jo);have x0:=a.1.cell q0;clear a;go_wp2_with fail;refine H1.out.mono ?_;rintro e w2 ⟨rfl,a⟩;clear H1 x0;have H2:=jp (Jv c (w.heap.size+1) _ s 32 _ a (by simp [Bk,Bd]) jo jo);have x1:=a.1.cell q1;clear a;go_wp2_with fail;refine H2.out.mono ?_;rintro e w3 ⟨rfl,a⟩;clear H2 x1;have H3:=jp (Cb c (w.heap.size+1) _ g 4 _ a (by simp [Bk,Bd]) jo jo);have J:=a.1.cell q2;clear a;go_wp2_with fail;refine H3.out.mono ?_;rintro e w4 ⟨rfl,a⟩;clear H3 J;generalize U:((([]++Az [67,80])++Ax b (8 * 4))++Ax s 32)++Ax g (8 * 4)=HD at *;clear U;have H8:=jp (Qc c (w.heap.size+1) _ B _ _ a HP.out T.out jo);have x8:=a.1.cell q3;clear a;go_wp2_with fail;refine H8.out.mono ?_;rintro e w9 ⟨rfl,a⟩;clear H8 x8;have G0:=jp (Cb c (w.heap.size+1) _ ah 2 _ a (by simp only [jO];omega) jo jo);have y0:=a.1.cell q4;clear a;go_wp2_with fail;refine G0.out.mono ?_;rintro e x0 ⟨rfl,a⟩;clear G0 y0;have G1:=jp (Cb c (w.heap.size+1) _ bh 2 _ a (by simp only [jO,Bd];omega) jo jo);have y1:=a.1.cell q5;clear a;go_wp2_with fail;refine G1.out.mono ?_;rintro e x1 ⟨rfl,a⟩;clear G1 y1;have G2:=jp (Cb c (w.heap.size+1) _ M.length 2 _ a (by simp only [jO,Bd];omega) jo jo);have y2:=a.1.cell q6;clear a;go_wp2_with fail;refine G2.out.mono ?_;rintro e J ⟨rfl,a⟩;clear G2 y2;have HI:=jp a;have y3:=a.1.cell q3;have y6:=a.1.cell q6;have x:=fun C=>J5 1 alg B.length C h8
 unfold IG at x;have ad:=Hs 1 alg B.length;have ae:=GJ alg;generalize CO alg=wp at *;generalize CX 1 alg B.length=wo at *;have D:=fun C hx=>PH (K:=fun _=>none) c (w.heap.size+1) ((((HD++Gd B)++Ax ah (8 * 2))++Ax bh (8 * 2))++Ax M.length (8 * 2)) wp wo M (.slice O M.length k) C hx HE.out S.out l jo jo (by simp only [jO,Bd];omega)
 clear a;go_wp2_with fail
 go_region_with (first
   | (go_at_call 150
      refine (x _).mono ?_
      rintro e V ⟨rfl, f⟩
      have i : Aa J V := by first | exact f | exact (jB (jD J)).trans f
      have n := jp (HI.out.later i)
      have z3 := i.cell y3
      have z6 := i.cell y6
      clear f i x)
   | (go_at_call 186
      refine (D _ (by first | exact n.out | exact n.out.later (jB (jD _)))).mono ?_
      rintro e af ⟨rfl, o⟩
      have E := jp o
      clear o D))
 all_goals
  have W:=Ij c (w.heap.size+1) _ _ E.out (by rw [<-t.out];omega);rw [<-t.out] at W;have F:=jp W;have ag:(AK Q).length<=8389600:=jX (Gi _ _ (jH _)) A;have G:=fun C=>Jd (Ai (AK Q)) C (by simp [Ai,ByteArray.size];omega)
  rw [Fs] at G;clear W;go_wp2_with fail;refine F.out.mono ?_;rintro e ai ⟨rfl,p⟩;have H:=jp (u.trans p.1);clear p F;generalize AK Q=PB at *;go_wp2_with fail;refine (G _).mono ?_;rintro e aj ⟨rfl,q⟩;have I:=jp (H.out.trans q);clear q;go_wp2;go_ret;exact ⟨rfl,I.out⟩
abbrev GH:=Nat×Nat×Nat×List BK×Nat×Nat×List EI
def Iy (b s g:Nat) (B:List BK) (ah bh:Nat) (M:List EI) (o:Option (List Bool)):Option GH:=if BW o=true then some (b,s,g,B,ah,bh,M) else none
def JX (alg:Int) (b s g:Nat) (B:List BK) (ah bh n:Nat):Option (List Bool)->Option GH:=Eg (BY (FB (CO alg) (CX 1 alg B.length)) n) fun M=>Iy b s g B ah bh M
def Pz:List Bool->Option ((Nat×Nat×Nat)×List Bool):=Bo (A9 16) fun ah=>Bo (A9 16) fun bh=>Bo (A9 16) fun n=>DT (ah,bh,n)
def Ko (alg:Int) (b s g:Nat) (B:List BK):Option (List Bool)->Option GH:=Eg Pz fun y=>JX alg b s g B y.1 y.2.1 y.2.2
def J3 (alg:Int) (b s g:Nat):Option (List Bool)->Option GH:=Eg Ie fun B o=>haveI:=Zf5 B;if AH B then Ko alg b s g B o else none
def Ny:List Bool->Option ((Nat×Nat×Nat)×List Bool):=Bo (A9 32) fun b=>Bo (A9 32) fun s=>Bo (A9 32) fun g=>DT (b,s,g)
def Kk (alg:Int):Option (List Bool)->Option GH:=Eg Ny fun y=>J3 alg y.1 y.2.1 y.2.2
def JO (alg:Int):Option (List Bool)->Option GH:=Eg (DU 2) fun t o=>if t=[67,80] then Kk alg o else none
def Dl (alg:Int) (l:jy):Option GH:=(CQ l).bind fun b=>JO alg (some (Az b))
theorem Vr (b s g:Nat) (B:List BK) (ah bh:Nat) (M:List EI):Iy b s g B ah bh M none=none:=by unfold Iy BW;exact if_neg (fun h=>by cases h)
theorem RV {alg:Int} {o o':Option (List Bool)} {t:jy} (h:o.bind (DU 2)=o'.map (Prod.mk t)):JO alg o=if t=[67,80] then Kk alg o' else none:=FO h (by split <;>rfl)
theorem T7 {alg:Int} {o o':Option (List Bool)} {b s g:Nat} (h:o.bind Ny=o'.map (Prod.mk (b,s,g))):Kk alg o=J3 alg b s g o':=FO h rfl
theorem Xj {alg:Int} {o o':Option (List Bool)} {b s g:Nat} {B:List BK} (h:o.bind Ie=o'.map (Prod.mk B)):J3 alg b s g o=haveI:=Zf5 B;if AH B then Ko alg b s g B o' else none:=FO h (by split <;>rfl)
theorem Zd {alg:Int} {o o':Option (List Bool)} {b s g ah bh n:Nat} {B:List BK} (h:o.bind Pz=o'.map (Prod.mk (ah,bh,n))):Ko alg b s g B o=JX alg b s g B ah bh n o':=FO h rfl
theorem XA {alg:Int} {o o':Option (List Bool)} {b s g ah bh n:Nat} {B:List BK} {M:List EI} (h:o.bind (BY (FB (CO alg) (CX 1 alg B.length)) n)=o'.map (Prod.mk M)):JX alg b s g B ah bh n o=Iy b s g B ah bh M o':=FO h (Vr ..)
def FY:Value:= .tuple #[.agg #[.int .i64 0,.int .u32 0,.int .i64 0,.slice none 0 0,.int .i64 0,.int .i64 0,.slice none 0 0],.bool false]
def L5 (w:jj) (o:Option GH) (e:Ending) (w':jj):Prop:=Aa w w'/\match o with
 |none=>e= .returned FY
 |some (b,s,g,B,ah,bh,M)=>∃a c,e= .returned (.tuple #[Hb b s g a ah bh c,.bool true])/\AJ w.heap.size w' a B/\AS w.heap.size w' c M
theorem Aa.sets7 {w V:jj} {r:Nat} (h:Aa w V) (a:w.heap.size<=r) (u0 u1 u2 u3 u4 u5 u6:ju):Aa w (((((((V.setCell ⟨r,0,none⟩ u0).setCell ⟨r,1,none⟩ u1).setCell ⟨r,2,none⟩ u2).setCell ⟨r,3,none⟩ u3).setCell ⟨r,4,none⟩ u4).setCell ⟨r,5,none⟩ u5).setCell ⟨r,6,none⟩ u6):=
 (h.sets6 a u0 u1 u2 u3 u4 u5).step_set (p:=⟨r,6,none⟩) a _
theorem QJ (t:jt) (alg:Int) (w:jj) (ht:t.size<=1099511627776):
  Calls Tryz.prog 160 #[.string t,.int .i64 alg] w (L5 w (Dl alg t.data.toList)):=by
 have HR:=jp (Ae.new w 193 #[.int .i64 0,.int .u32 0,.int .i64 0,.slice none 0 0,.int .i64 0,.int .i64 0,.slice none 0 0]);cases hO:CQ t.data.toList with
 |none=>
  have bf:Hid (Dl alg t.data.toList=none):=by show _=_;simp [Dl,hO]
  have L:=fun wx=>GT t wx ht
  rw [hO] at L;unfold Ga Gr at L;go_enter Tryz.func160,Tryz.ntmps160;go_wp2_with fail;refine (L _).mono ?_;rintro e w1 ⟨rfl,p⟩;have u:=HR.out.bel p;have N:=u.cell 0 rfl;have s0:=u.free 0;have O:=u.cell 1 rfl;have s1:=u.free 1;have P:=u.cell 2 rfl;have s2:=u.free 2;have Q:=u.cell 3 rfl;have s3:=u.free 3;have S:=u.cell 4 rfl;have s4:=u.free 4;have T:=u.cell 5 rfl;have s5:=u.free 5;have U:=u.cell 6 rfl;have s6:=u.free 6;have bg:Hid (Aa w w1):=((jD w).step_alloc _).trans p;clear u HR p L;go_wp2;rw [bf.out];exact bodyPost_ret (v:=FY) (by simp [FY,results,Tryz.results160,go_sem,N,O,P,Q,S,T,U]) rfl ⟨bg.out.sets7 (jH _) _ _ _ _ _ _ _,rfl⟩
 |some b0=>
  have aj:Hid (Dl alg t.data.toList=JO alg (some (Az b0))):=by show _=_;simp [Dl,hO]
  have L:=fun wx=>GT t wx ht
  rw [hO] at L;unfold Ga Gr at L;go_enter Tryz.func160,Tryz.ntmps160;go_wp2_with fail;refine (L _).mono ?_;rintro e w1 ⟨rfl,p⟩;go_wp2_with fail;refine (JQ _ _).mono ?_;rintro e w2 ⟨rfl,ab⟩;obtain ⟨W0,V⟩:∃W0,W0=w.alloc (.cells #[.int .i64 0,.int .u32 0,.int .i64 0,.slice none 0 0,.int .i64 0,.int .i64 0,.slice none 0 0] 193):=⟨_,rfl⟩;rw [<-V] at HR p;have ak:=Rs.new w2 b0 161;have al:Ab [w2.heap.size] W0 (w2.alloc (.cells #[.string (Ai b0),.int .u64 0,.bool false] 161)):=Ab.of_bel ((p.trans ab).step_alloc _);have H1:=jp (Hf w2.heap.size _ 2 _ ak jo);have bm:W0.heap.size<=w2.heap.size:=(p.trans ab).size;have i:Hid (w.heap.size<W0.heap.size):=by show _<_;rw [V];simp
  have W:Hid (Aa w W0):=by show Aa w W0;rw [V];exact (jD w).step_alloc _
  have am:=jp al;have X:=HR;clear p ab L ak al V HR;go_wp2_with fail;refine H1.out.mono ?_;rintro e w3 ⟨l,o1,rfl,an,ao,bi,z⟩;have A:=jp (am.out.trans an);have ac:=jp ao;have C:Hid (Dl alg t.data.toList=if l=[67,80] then Kk alg o1 else none):=aj.out.trans (RV z);have Y:((Ai l).toList==[67,80])=decide (l=[67,80]):=KK l [67,80];clear an ao bi z H1 am aj;by_cases hl:l=[67,80]
  rotate_left
  .have ap:((Ai l).toList==[67,80])=false:=by rw [Y];exact jK hl
   clear Y;have R:=X.out.but (A.out) (by have:=i.out;simp;omega);have HW:=jp (Ab.belTo W.out (A.out) (fun j hj=>by have:=i.out;simp at hj;omega));have N:=R.cell 0 rfl;have s0:=R.free 0;have O:=R.cell 1 rfl;have s1:=R.free 1;have P:=R.cell 2 rfl;have s2:=R.free 2;have Q:=R.cell 3 rfl;have s3:=R.free 3;have S:=R.cell 4 rfl;have s4:=R.free 4;have T:=R.cell 5 rfl;have s5:=R.free 5;have U:=R.cell 6 rfl;have s6:=R.free 6;have k:Hid (Dl alg t.data.toList=none):=by rw [if_neg hl] at C;exact C
   clear R hl A ac;go_wp2;rw [k.out];exact bodyPost_ret (v:=FY) (by simp [FY,results,Tryz.results160,go_sem,N,O,P,Q,S,T,U]) rfl ⟨HW.out.sets7 (jH _) _ _ _ _ _ _ _,rfl⟩
  rw [if_pos hl] at C;have ap:((Ai l).toList==[67,80])=true:=by rw [Y];exact jL hl
  have c:=jp (St.new (tq:=193) (qc:=#[.int .i64 0,.int .u32 0,.int .i64 0,.slice none 0 0,.int .i64 0,.int .i64 0,.slice none 0 0]) A.out ac.out);clear Y hl A ac;have K0:=jp (Cp _ _ 4 _ c.out.rs jo);go_wp2_with fail;refine K0.out.mono ?_;rintro e v0 ⟨b,a0,rfl,o,q,aq,ar⟩;replace c:=jp (c.out.read o q);have g0:=c.out.box.cell 0 rfl;have k0:=c.out.box.free 0;replace c:=jp (c.out.put 0 (.int .i64 (b:Int)) (qc':=#[.int .i64 (b:Int),.int .u32 0,.int .i64 0,.slice none 0 0,.int .i64 0,.int .i64 0,.slice none 0 0]) rfl);have P0:=jp ar;clear o q ar K0;clear aq;have K1:=jp (Lo _ _ 32 _ c.out.rs jo);go_wp2_with fail;refine K1.out.mono ?_;rintro e v1 ⟨s,a1,rfl,o,q,aa,z⟩;replace c:=jp (c.out.read o q);have bk:s<4294967296:=aa;have hU:IntKind.u32.wrap (s:Int)=(s:Int):=by rw [IntKind.wrap_u32];omega
  have g1:=c.out.box.cell 1 rfl;have k1:=c.out.box.free 1;replace c:=jp (c.out.put 1 (.int .u32 (s:Int)) (qc':=#[.int .i64 (b:Int),.int .u32 (s:Int),.int .i64 0,.slice none 0 0,.int .i64 0,.int .i64 0,.slice none 0 0]) rfl);have P1:=jp z;clear o q z K1;clear aa;have K2:=jp (Cp _ _ 4 _ c.out.rs jo);go_wp2_with fail;refine K2.out.mono ?_;rintro e v2 ⟨g,a2,rfl,o,q,au,av⟩;replace c:=jp (c.out.read o q);have g2:=c.out.box.cell 2 rfl;have k2:=c.out.box.free 2;replace c:=jp (c.out.put 2 (.int .i64 (g:Int)) (qc':=#[.int .i64 (b:Int),.int .u32 (s:Int),.int .i64 (g:Int),.slice none 0 0,.int .i64 0,.int .i64 0,.slice none 0 0]) rfl);have P2:=jp av;clear o q av K2;clear au;have aw:Hid (Dl alg t.data.toList=J3 alg b s g a2):=C.out.trans (T7 (Bw P0.out (Bw P1.out (Bw P2.out (GK _)))));have H6:=jp (O5 _ _ _ c.out.rs);have D:=c.out.rs.lt;have bj:=c.out.box.lt;have bl:=c.out.2.2.2.1;obtain ⟨w5,Z⟩:∃w5,w5=v2.setCell ⟨w3.heap.size,2,none⟩ (.int .i64 (g:Int)):=⟨_,rfl⟩;have bn:w5.heap.size=v2.heap.size:=by rw [Z];simp
  rw [<-Z] at H6 D bj c;clear P0 P1 P2 C;go_wp2_with fail;rw [<-Z];clear Z;refine H6.out.mono ?_;rintro e w6 ⟨B,o3,v,x,rfl,ax,ay,F,G,H⟩;replace c:=jp (c.out.read ax ay);have ad:=jp (aw.out.trans (Xj F));have ae:=jp G;have d:=jp H;clear ax ay F G H H6 aw;cases x
  .have hq:Hid (¬AH B):=fun h=>by have:=ae.out.2 h;cases this
   have R:=X.out.but (c.out.1) (by have:=i.out;simp;omega);have HW:=jp (Ab.belTo W.out (c.out.1) (fun j hj=>by have:=i.out;simp at hj;omega));have N:=R.cell 0 rfl;have s0:=R.free 0;have O:=R.cell 1 rfl;have s1:=R.free 1;have P:=R.cell 2 rfl;have s2:=R.free 2;have Q:=R.cell 3 rfl;have s3:=R.free 3;have S:=R.cell 4 rfl;have s4:=R.free 4;have T:=R.cell 5 rfl;have s5:=R.free 5;have U:=R.cell 6 rfl;have s6:=R.free 6;have k:Hid (Dl alg t.data.toList=none):=by show _=_;rw [ad.out];exact if_neg hq.out
   clear R c;go_wp2;rw [k.out];exact bodyPost_ret (v:=FY) (by simp [FY,results,Tryz.results160,go_sem,N,O,P,Q,S,T,U]) rfl ⟨HW.out.sets7 (jH _) _ _ _ _ _ _ _,rfl⟩
  have HG:Hid (AH B):=ae.out.1 js;replace d:Hid (AJ w5.heap.size w6 v B):=d.out js;have az:Hid (Dl alg t.data.toList=Ko alg b s g B o3):=by show _=_;rw [ad.out];exact if_pos HG.out
  have h8:=HG.out.1.1;obtain ⟨aP,m,rfl⟩:=B8 d.out;have y8:=c.out.box.cell 3 rfl;have z8:=c.out.box.free 3;replace c:=jp (c.out.put 3 (.slice aP B.length m) (qc':=#[.int .i64 (b:Int),.int .u32 (s:Int),.int .i64 (g:Int),.slice aP B.length m,.int .i64 0,.int .i64 0,.slice none 0 0]) rfl);replace d:=jp (ownsRow_setCell_below d.out (a:=⟨w3.heap.size,3,none⟩) jv (.slice aP B.length m));clear ae ad;have K3:=jp (Cp _ _ 2 _ c.out.rs jo);go_wp2_with fail;refine K3.out.mono ?_;rintro e v3 ⟨ah,a3,rfl,o,q,a6,F⟩;replace c:=jp (c.out.read o q);replace d:=jp (EP d.out o D);have g3:=c.out.box.cell 4 rfl;have k3:=c.out.box.free 4;replace c:=jp (c.out.put 4 (.int .i64 (ah:Int)) (qc':=#[.int .i64 (b:Int),.int .u32 (s:Int),.int .i64 (g:Int),.slice aP B.length m,.int .i64 (ah:Int),.int .i64 0,.slice none 0 0]) rfl);replace d:=jp (ownsRow_setCell_below d.out (a:=⟨w3.heap.size,4,none⟩) jv (.int .i64 (ah:Int)));have P3:=jp F;clear o q F K3;have K4:=jp (Cp _ _ 2 _ c.out.rs jo);go_wp2_with fail;refine K4.out.mono ?_;rintro e v4 ⟨bh,a4,rfl,o,q,a7,a8⟩;replace c:=jp (c.out.read o q);replace d:=jp (EP d.out o D);have g4:=c.out.box.cell 5 rfl;have k4:=c.out.box.free 5;replace c:=jp (c.out.put 5 (.int .i64 (bh:Int)) (qc':=#[.int .i64 (b:Int),.int .u32 (s:Int),.int .i64 (g:Int),.slice aP B.length m,.int .i64 (ah:Int),.int .i64 (bh:Int),.slice none 0 0]) rfl);replace d:=jp (ownsRow_setCell_below d.out (a:=⟨w3.heap.size,5,none⟩) jv (.int .i64 (bh:Int)));have P4:=jp a8;clear o q a8 K4;have K5:=jp (Cp _ _ 2 _ c.out.rs jo);go_wp2_with fail;refine K5.out.mono ?_;rintro e v5 ⟨n,a5,rfl,o,q,a9,I⟩;replace c:=jp (c.out.read o q);replace d:=jp (EP d.out o D);have P5:=jp I;clear o q I K5;have hn:n<=65535:=by have:(2:Nat) ^ (8 * 2)=65536:=rfl;omega
  have ba:Hid (Dl alg t.data.toList=JX alg b s g B ah bh n a5):=az.out.trans (Zd (Bw P3.out (Bw P4.out (Bw P5.out (GK _)))));have J:=fun wx=>J5 1 alg B.length wx h8
  unfold IG at J;clear P3 P4 P5 az a6 a7 a9;go_wp2_with fail;refine (J _).mono ?_;rintro e w8 ⟨rfl,af⟩;replace c:=jp (c.out.bel af);replace d:=jp (CV d.out af);have bo:=c.out.box.lt;have bp:=c.out.rs.lt;have H9:=jp (NB _ _ (CO alg) (CX 1 alg B.length) n _ c.out.rs (GJ _) (Hs _ _ _) hn);have bb:Hid (∀(E:List EI) (o':Option (List Bool)),a5.bind (BY (FB (CO alg) (CX 1 alg B.length)) n)=o'.map (Prod.mk E)->Dl alg t.data.toList=Iy b s g B ah bh E o'):=fun E o' h=>ba.out.trans (XA h)
  clear af J ba;generalize CO alg=wp at *;generalize CX 1 alg B.length=wo at *;go_wp2_with fail;refine H9.out.mono ?_;rintro e w9 ⟨M,o5,vM,rfl,ag,bc,I,ai,bq,br⟩;replace c:=jp (c.out.read ag bc);replace d:=jp (EP d.out ag D);obtain ⟨aE,r,rfl⟩:=B8 ai;have K:=jp ai;have bd:=jp (bb.out M o5 I);have y9:=c.out.box.cell 6 rfl;have z9:=c.out.box.free 6;replace c:=jp (c.out.put 6 (.slice aE M.length r) (qc':=#[.int .i64 (b:Int),.int .u32 (s:Int),.int .i64 (g:Int),.slice aP B.length m,.int .i64 (ah:Int),.int .i64 (bh:Int),.slice aE M.length r]) rfl);replace d:=jp (ownsRow_setCell_below d.out (a:=⟨w3.heap.size,6,none⟩) jv (.slice aE M.length r));replace K:=jp (ownsRow_setCell_below K.out (a:=⟨w3.heap.size,6,none⟩) jv (.slice aE M.length r));have be:=jp (I7 _ _ _ c.out.rs);clear ag bc I ai H9 bb;go_wp2_with fail;refine be.out.mono ?_;rintro e bs ⟨rfl,y⟩;replace c:=jp (c.out.bel y);replace d:=jp (CV d.out y);replace K:=jp (CV K.out y);clear y be y9 z9;cases hx:BW o5
  .have hq:Hid (¬BW o5=true):=fun h=>by rw [hx] at h;cases h
   have R:=X.out.but (c.out.1) (by have:=i.out;simp;omega);have HW:=jp (Ab.belTo W.out (c.out.1) (fun j hj=>by have:=i.out;simp at hj;omega));have N:=R.cell 0 rfl;have s0:=R.free 0;have O:=R.cell 1 rfl;have s1:=R.free 1;have P:=R.cell 2 rfl;have s2:=R.free 2;have Q:=R.cell 3 rfl;have s3:=R.free 3;have S:=R.cell 4 rfl;have s4:=R.free 4;have T:=R.cell 5 rfl;have s5:=R.free 5;have U:=R.cell 6 rfl;have s6:=R.free 6;have k:Hid (Dl alg t.data.toList=none):=by show _=_;rw [bd.out];exact if_neg hq.out
   clear R c;go_wp2;rw [k.out];exact bodyPost_ret (v:=FY) (by simp [FY,results,Tryz.results160,go_sem,N,O,P,Q,S,T,U]) rfl ⟨HW.out.sets7 (jH _) _ _ _ _ _ _ _,rfl⟩
  have k:Hid (Dl alg t.data.toList=some (b,s,g,B,ah,bh,M)):=by show _=_;rw [bd.out];exact if_pos hx
  have R:=X.out.but c.out.1 (by have:=i.out;simp;omega);have HW:=jp (Ab.belTo W.out c.out.1 (fun j hj=>by have:=i.out;simp at hj;omega));have f:=c.out.box;have N:=R.cell 0 rfl;have s0:=R.free 0;have O:=R.cell 1 rfl;have s1:=R.free 1;have P:=R.cell 2 rfl;have s2:=R.free 2;have Q:=R.cell 3 rfl;have s3:=R.free 3;have S:=R.cell 4 rfl;have s4:=R.free 4;have T:=R.cell 5 rfl;have s5:=R.free 5;have U:=R.cell 6 rfl;have s6:=R.free 6;have d0:=f.cell 0 rfl;have e0:=f.free 0;have d1:=f.cell 1 rfl;have e1:=f.free 1;have d2:=f.cell 2 rfl;have e2:=f.free 2;have d3:=f.cell 3 rfl;have e3:=f.free 3;have d4:=f.cell 4 rfl;have e4:=f.free 4;have d5:=f.cell 5 rfl;have e5:=f.free 5;have d6:=f.cell 6 rfl;have e6:=f.free 6;clear R f c;go_wp2;rw [k.out];refine bodyPost_ret (v:= .tuple #[Hb b s g (.slice aP B.length m) ah bh (.slice aE M.length r),.bool true]) (by simp [Hb,results,Tryz.results160,go_sem,N,O,P,Q,S,T,U]) rfl ⟨HW.out.sets7 (jH _) _ _ _ _ _ _ _,_,_,rfl,?_,?_⟩
  .refine AJ.mono (b:=w5.heap.size) ?_ (by have:=i.out;omega)
   iterate 7 (refine ownsRow_setCell_below ?_ (by have:=i.out;simp only;omega) _)
   exact d.out
  .refine World.ownsRow.mono (base:=w8.heap.size) ?_ (by have:=i.out;omega)
   iterate 7 (refine ownsRow_setCell_below ?_ (by have:=i.out;simp only;omega) _)
   exact K.out
theorem FT {α β:Type} {P:List Bool->Option (α×List Bool)} {k:α->Option (List Bool)->Option β} {o:Option (List Bool)} {r:β} (h:Eg P k o=some r):∃X a Y,o=some X/\P X=some (a,Y)/\k a (some Y)=some r:=by
 unfold Eg at h;cases o with
 |none=>cases h
 |some X=>
  have b:(P X).bind (fun y=>k y.1 (some y.2))=some r:=h;cases c:P X with
  |none=>rw [c] at b;cases b
  |some y=>rw [c] at b;exact ⟨X,y.1,y.2,rfl,c,b⟩
theorem Dx {W x:Nat} {X Y:jz} (h:A9 W X=some (x,Y)):x<2 ^ W/\X=Ax x W++Y:=by
 unfold A9 at h;split at h
 .cases h
 .rename_i c;injection h with h
  injection h with h1 h2
  have a:(X.take W).length=W:=by rw [jk];omega
  have b:=FG (X.take W);rw [a,h1] at b;refine ⟨b,?_⟩;have:=Pg (X.take W);rw [a,h1] at this;rw [this,<-h2,List.take_append_drop]
theorem OL {wp wo:Nat} {e:EI} {X Y:jz} (h:FB wp wo X=some (e,Y)):∃x y:Nat,e=((x:Int),(y:Int))/\x<2 ^ wp/\y<2 ^ wo/\X=Ax x wp++(Ax y wo++Y):=by
 unfold FB Bo DT at h;cases b:A9 wp X with
 |none=>rw [b] at h;cases h
 |some y1=>
  rw [b] at h;have a:(A9 wo y1.2).bind (fun y=>some (((y1.1:Int),(y.1:Int)),y.2))=some (e,Y):=h;cases c:A9 wo y1.2 with
  |none=>rw [c] at a;cases a
  |some y2=>
   rw [c] at a;have g:(((y1.1:Int),(y2.1:Int)),y2.2)=(e,Y):=by simpa using a
   injection g with h4 h5
   have d:=Dx (x:=y1.1) (Y:=y1.2) b;have f:=Dx (x:=y2.1) (Y:=y2.2) c;exact ⟨y1.1,y2.1,h4.symm,d.1,f.1,by rw [d.2,f.2,h5]⟩
theorem NV {α:Type} {P:List Bool->Option (α×List Bool)} {Q:α->Prop} (g:∀X a Y,P X=some (a,Y)->Q a):∀(n:Nat) (X:jz) (L:List α) (Y:jz),BY P n X=some (L,Y)->L.length=n/\∀a∈L,Q a:=by
 intro n
 induction n with
 |zero=>
  intro X L Y h;have:(([]:List α),X)=(L,Y):=by simpa [BY] using h
  injection this with c d
  subst c;exact ⟨rfl,fun a b=>by cases b⟩
 |succ n ih=>
  intro X L Y h;rw [BY] at h;cases c:BY P n X with
  |none=>rw [c] at h;cases h
  |some y=>
   rw [c] at h;have f:(P y.2).map (fun z=>(y.1++[z.1],z.2))=some (L,Y):=h;cases d:P y.2 with
   |none=>rw [d] at f;cases f
   |some z=>
    rw [d] at f;have i:(y.1++[z.1],z.2)=(L,Y):=by simpa using f
    injection i with h4 h5
    obtain ⟨k,l⟩:=ih X y.1 y.2 c;rw [<-h4];refine ⟨by simp [k],fun a b=>?_⟩;rcases jT.1 b with b|b
    .exact l a b
    .obtain rfl:=jP.1 b;exact g _ _ z.2 d
structure IK (f g:Nat) (c:Ac) (B:List BK) (E:List EI):Prop where
 fmt:1<=f/\f<=2
 tok:c.TOK
 good:AH B
 right:DR g c B E
 pts:∀e∈E,0<=e.1/\e.1<18446744073709551616
 none:c.formats=0
theorem LU {c:Ac} {B:List BK} (a:c.TOK) (d:AL B):GM c B<=255:=by
 have b:=Pd d;have f:=Mg a;obtain ⟨g,i,k,l, -⟩:=a;unfold GM;split
 .omega
 .split
  .have:Ei c * As B<=3 * 48:=Int.mul_le_mul f.2 b.2 b.1 jo;omega
  .omega
theorem IK.len {f g:Nat} {c:Ac} {B:List BK} {E:List EI} (h:IK f g c B E):E.length<=255:=by
 have a:=h.right.2.1;have b:=LU h.tok h.good.1;omega
theorem IK.ents {f g:Nat} {c:Ac} {B:List BK} {E:List EI} (h:IK f g c B E):∀e∈E,Fp e/\0<=e.2/\e.2<8:=fun e a=>by
 obtain ⟨j,d,i,k⟩:=h.right.2.2.1 e a;have b:=h.pts e a;have l:=h.good.1.1;exact ⟨⟨b.1,b.2,jo,jo⟩,jo,jo⟩
theorem Zk {f g:Nat} {c:Ac} {X Y:jz} (h:Im X=some ((f,g,c),Y)):c.formats=0:=by
 unfold Im Bo DT at h;revert h;cases A9 8 X with
 |none=>intro h;cases h
 |some y1=>
  simp only [Option.bind_some];cases A9 8 y1.2 with
  |none=>intro h;cases h
  |some y2=>
   simp only [Option.bind_some];cases A9 32 y2.2 with
   |none=>intro h;cases h
   |some y3=>
    simp only [Option.bind_some];cases A9 16 y3.2 with
    |none=>intro h;cases h
    |some y4=>
     simp only [Option.bind_some];cases A9 8 y4.2 with
     |none=>intro h;cases h
     |some y5=>
      simp only [Option.bind_some];cases A9 8 y5.2 with
      |none=>intro h;cases h
      |some y6=>
       simp only [Option.bind_some];cases DU 16 y6.2 with
       |none=>intro h;cases h
       |some y7=>
        intro h;injection h with h
        injection h with h _
        injection h with _ h
        injection h with _ h
        rw [<-h]
theorem Hp {l:jy} {f g:Nat} {c:Ac} {B:List BK} {E:List EI} (h:Bj l=some (f,g,c,B,E)):IK f g c B E:=by
 unfold Bj at h;cases q:CQ l with
 |none=>rw [q] at h;cases h
 |some b=>
  rw [q] at h;have r:Kf (some (Az b))=some (f,g,c,B,E):=h;obtain ⟨D,t,F, -, -,k⟩:=FT r;split at k
  .obtain ⟨G,s,H, -,u,m⟩:=FT k;split at m
   .rename_i i;obtain ⟨I,J,K, -, -,o⟩:=FT m;split at o
    .rename_i p;obtain ⟨L,n,M, -, -,v⟩:=FT o;obtain ⟨N,O,P, -,w,d⟩:=FT v;unfold II at d;split at d
     .rename_i z;injection d with d
      obtain ⟨R,S,T⟩:=s;simp only at *;injection d with e1 d
      injection d with e2 d
      injection d with e3 d
      injection d with e4 e5
      subst e1 e2 e3 e4 e5
      exact ⟨i.1, i.2, p, z.2, fun e A => by
        have := (NV (Q := fun e : EI => 0 <= e.1 /\ e.1 < 18446744073709551616) (fun X a Y C => by
          obtain ⟨x, y, rfl, hx, -, -⟩ := OL C
          have := Mi hx (GJ _)
          exact ⟨by simp only; omega, by simp only; omega⟩) _ _ _ _ w).2 e A
        exact this, Zk u⟩
     .cases d
    .cases o
   .cases m
  .cases k
theorem Mf:∀(a b:List EI),Cu a b<=a.length/\Cu a b<=b.length
 |x::a,y::b=>by
  have:=Mf a b;rw [Cu];split <;>simp <;>omega
 |[],b=>by simp [Cu]
 |_::_,[]=>by simp [Cu]
theorem Ye (a b:List EI):EE a b<=a.length/\EE a b<=b.length:=by
 have:=Mf a.reverse b.reverse;simpa [EE] using this
end Go.Proofs.YtpapdkhjdelfcaaGreat
