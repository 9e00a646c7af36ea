import Derived.Test.YtpapdkhjdelfcaaGreatMAI
namespace Go.Proofs.YtpapdkhjdelfcaaGreat
open Go.RowKit
set_option maxRecDepth 100000
set_option maxHeartbeats 4000000
variable {K:Nat->Option Obj}
def CO (alg:Int):Nat:=if Fq alg then 64 else 0
def CX (f alg:Int) (n:Nat):Nat:=if f=2 then Gf n else if Fq alg then 8 else 16
theorem YF (n:Nat):Gf n<=3:=by unfold Gf G3;split <;>(try split)<;>omega
theorem Hs (f alg:Int) (n:Nat):CX f alg n<=16:=by have:=YF n;unfold CX;split <;>(try split)<;>omega
theorem GJ (alg:Int):CO alg<=64:=by unfold CO;split <;>omega
def IG (f alg:Int) (n:Nat):Value:= .agg #[.int .i64 (CO alg:Int),.int .i64 (CX f alg n:Int)]
def U2 (w:jj) (v:ju) (e:Ending) (w':jj):Prop:=e= .returned v/\Aa w w'
theorem J5 (f alg:Int) (n:Nat) (w:jj) (N:n<=8):Calls Tryz.prog 150 #[.int .i64 f,.int .i64 alg,.int .i64 (n:Int)] w (U2 w (IG f alg n)):=by
 have l:=fun z=>Lu alg z
 have v:=fun z=>TS n z N
 unfold IG CO CX;generalize Gf n=x at *;cases F:Fq alg
 .rw [F] at l;by_cases y:f=2
  .subst y;go_enter Tryz.func150,Tryz.ntmps150;go_wp2_with fail;refine (l _).mono ?_;rintro e A ⟨rfl,b⟩;have k:=((Ae.new w 187 #[.int .i64 0,.int .i64 0]).alloc (.cells #[.int .i64 0,.int .i64 16] 187)).bel b;have c:=(Ae.new (w.alloc (.cells #[.int .i64 0,.int .i64 0] 187)) 187 #[.int .i64 0,.int .i64 16]).bel b;rw [show (w.alloc (.cells #[.int .i64 0,.int .i64 0] 187)).heap.size=w.heap.size+1 by simp] at c;have m:=jp ((((jD w).step_alloc _).step_alloc _).trans b);clear b;have g:=c;have i:=k;have o:=m;clear k c m;replace g:=jp g;replace i:=jp i;go_wp2_with fail;refine (v _).mono ?_;rintro e O ⟨rfl,d⟩;have q:=i.out.bel d;have r:=g.out.bel d;have s:=jp (o.out.trans d);have t:=q.cell 0 rfl;have B:=q.free 0;have u:=q.cell 1 rfl;have C:=q.free 1;have G:=r.cell 0 rfl;have H:=r.free 0;have I:=r.cell 1 rfl;have J:=r.free 1;clear q r d o g i;go_wp2;refine bodyPost_ret (by simp [results,Tryz.results150,go_sem,t,u];rfl) rfl ⟨js,?_⟩;have D:=s.out;(repeat (first|assumption|refine Aa.step_set ?_ js _))
  .have E:(f==2)=false:=by simp [y]
   go_enter Tryz.func150,Tryz.ntmps150;go_wp2_with fail;refine (l _).mono ?_;rintro e A ⟨rfl,b⟩;have k:=((Ae.new w 187 #[.int .i64 0,.int .i64 0]).alloc (.cells #[.int .i64 0,.int .i64 16] 187)).bel b;have c:=(Ae.new (w.alloc (.cells #[.int .i64 0,.int .i64 0] 187)) 187 #[.int .i64 0,.int .i64 16]).bel b;rw [show (w.alloc (.cells #[.int .i64 0,.int .i64 0] 187)).heap.size=w.heap.size+1 by simp] at c;have m:=jp ((((jD w).step_alloc _).step_alloc _).trans b);clear b;have g:=c;have i:=k;have o:=m;clear k c m;have t:=i.cell 0 rfl;have B:=i.free 0;have u:=i.cell 1 rfl;have C:=i.free 1;have G:=g.cell 0 rfl;have H:=g.free 0;have I:=g.cell 1 rfl;have J:=g.free 1;have s:=o;clear o g i;go_wp2;refine bodyPost_ret (by simp [results,Tryz.results150,go_sem,t,u];rfl) rfl ⟨js,?_⟩;have D:=s.out;(repeat (first|assumption|refine Aa.step_set ?_ js _))
 .rw [F] at l;by_cases y:f=2
  .subst y;go_enter Tryz.func150,Tryz.ntmps150;go_wp2_with fail;refine (l _).mono ?_;rintro e A ⟨rfl,b⟩;have k:=((Ae.new w 187 #[.int .i64 0,.int .i64 0]).alloc (.cells #[.int .i64 0,.int .i64 16] 187)).bel b;have c:=(Ae.new (w.alloc (.cells #[.int .i64 0,.int .i64 0] 187)) 187 #[.int .i64 0,.int .i64 16]).bel b;rw [show (w.alloc (.cells #[.int .i64 0,.int .i64 0] 187)).heap.size=w.heap.size+1 by simp] at c;have m:=jp ((((jD w).step_alloc _).step_alloc _).trans b);clear b;have x0:=c.cell 0 rfl;have K:=c.free 0;have L:=c.cell 1 rfl;have M:=c.free 1;have g:=(c.set 0 (.int .i64 64) (cs':=#[.int .i64 64,.int .i64 16]) rfl).set 1 (.int .i64 8) (cs':=#[.int .i64 64,.int .i64 8]) rfl;have i:=(k.setO (a:=⟨w.heap.size+1,0,none⟩) js (.int .i64 64)).setO (a:=⟨w.heap.size+1,1,none⟩) js (.int .i64 8);have o:=jp ((m.out.step_set (p:=⟨w.heap.size+1,0,none⟩) js (.int .i64 64)).step_set (p:=⟨w.heap.size+1,1,none⟩) js (.int .i64 8));clear c m;clear k;replace g:=jp g;replace i:=jp i;go_wp2_with fail;refine (v _).mono ?_;rintro e O ⟨rfl,d⟩;have q:=i.out.bel d;have r:=g.out.bel d;have s:=jp (o.out.trans d);have t:=q.cell 0 rfl;have B:=q.free 0;have u:=q.cell 1 rfl;have C:=q.free 1;have G:=r.cell 0 rfl;have H:=r.free 0;have I:=r.cell 1 rfl;have J:=r.free 1;clear q r d o g i x0 L K M;go_wp2;refine bodyPost_ret (by simp [results,Tryz.results150,go_sem,t,u];rfl) rfl ⟨js,?_⟩;have D:=s.out;(repeat (first|assumption|refine Aa.step_set ?_ js _))
  .have E:(f==2)=false:=by simp [y]
   go_enter Tryz.func150,Tryz.ntmps150;go_wp2_with fail;refine (l _).mono ?_;rintro e A ⟨rfl,b⟩;have k:=((Ae.new w 187 #[.int .i64 0,.int .i64 0]).alloc (.cells #[.int .i64 0,.int .i64 16] 187)).bel b;have c:=(Ae.new (w.alloc (.cells #[.int .i64 0,.int .i64 0] 187)) 187 #[.int .i64 0,.int .i64 16]).bel b;rw [show (w.alloc (.cells #[.int .i64 0,.int .i64 0] 187)).heap.size=w.heap.size+1 by simp] at c;have m:=jp ((((jD w).step_alloc _).step_alloc _).trans b);clear b;have x0:=c.cell 0 rfl;have K:=c.free 0;have L:=c.cell 1 rfl;have M:=c.free 1;have g:=(c.set 0 (.int .i64 64) (cs':=#[.int .i64 64,.int .i64 16]) rfl).set 1 (.int .i64 8) (cs':=#[.int .i64 64,.int .i64 8]) rfl;have i:=(k.setO (a:=⟨w.heap.size+1,0,none⟩) js (.int .i64 64)).setO (a:=⟨w.heap.size+1,1,none⟩) js (.int .i64 8);have o:=jp ((m.out.step_set (p:=⟨w.heap.size+1,0,none⟩) js (.int .i64 64)).step_set (p:=⟨w.heap.size+1,1,none⟩) js (.int .i64 8));clear c m;have t:=k.cell 0 rfl;have B:=k.free 0;have u:=k.cell 1 rfl;have C:=k.free 1;clear k;have s:=o;clear o g i;go_wp2;refine bodyPost_ret (by simp [results,Tryz.results150,go_sem,t,u];rfl) rfl ⟨js,?_⟩;have D:=s.out;(repeat (first|assumption|refine Aa.step_set ?_ js _))
variable {K:Nat->Option Obj}
def Bv (w:jj) (v:ju) (l:List EI):Prop:=∃a cap,v= .slice a l.length cap/\∀j (b:j<l.length),∃g o,a=some ⟨g,o,none⟩/\w.cell? ⟨g,o+j * 2,none⟩=some (.int .u64 l[j].1)/\w.cell? ⟨g,o+j * 2+1,none⟩=some (.int .i64 l[j].2)
theorem Bv.of {w:jj} {v:ju} {l:List EI} (h:AR w v l):Bv w v l:=by
 obtain ⟨a,cap,rfl,b⟩:=h.open;refine ⟨a,cap,rfl,fun j c=>?_⟩;obtain ⟨g,d,f,i⟩:=b j c;exact ⟨g,0,d,by simpa using f,by simpa using i⟩
theorem Bv.later {a w:jj} {v:ju} {l:List EI} (h:Bv a v l) (k:Aa a w):Bv w v l:=by
 obtain ⟨b,cap,rfl,c⟩:=h;refine ⟨b,cap,rfl,fun j d=>?_⟩;obtain ⟨g,o,f,i,m⟩:=c j d;exact ⟨g,o,f,k.cell i,k.cell m⟩
def Fp (e:EI):Prop:=0<=e.1/\e.1<18446744073709551616/\ -9223372036854775808<=e.2/\e.2<=9223372036854775807
def Hk (x:Int):Nat:=(x % 18446744073709551616).toNat
def MK (wp wo:Nat) (e:EI):List Bool:=Ax e.1.toNat wp++Ax (Hk e.2) wo
def EW (wp wo:Nat) (E:List EI):List Bool:=E.flatMap (MK wp wo)
theorem L3 (wp wo:Nat) (E:List EI):(EW wp wo E).length=E.length * (wp+wo):=by
 induction E with
 |nil=>simp [EW]
 |cons e E ih=>
  simp only [EW,List.flatMap_cons,jO,List.length_cons,MK,Bd] at ih |-;rw [ih,Nat.add_mul];omega
theorem PH (s:jj) (p:Nat) (L:jz) (wp wo:Nat) (E:List EI) (v:ju) (w:jj) (h:Bb K s p L w) (X:Bv s v E) (t:∀e∈E,Fp e) (P:E.length<=65536) (h1:wp<=64) (h2:wo<=64) (hL:L.length<=1073741824):
  Calls Tryz.prog 186 #[.pointer (some ⟨p,0,none⟩),.agg #[.int .i64 (wp:Int),.int .i64 (wo:Int)],v] w (Ha K s p (L++EW wp wo E)):=by
 obtain ⟨ao,cap,rfl,G⟩:=X;obtain ⟨Y,x,y,a⟩:=h.box (.cells #[.int .i64 (wp:Int),.int .i64 (wo:Int)] 187) (fun H e=>by injection e with _ e;revert e;decide);have f:=jp x;have I:=jp y;have z:=jp a;have J:=jp t
 have i:Hid (∀k,(EW wp wo (E.take k)).length<=8388608):=fun k=>by
  have h3:=List.length_take_le' k E;have Z:(E.take k).length * (wp+wo)<=65536 * 128:=Nat.mul_le_mul jo jo;rw [L3];exact Z
 clear h x y a t;go_enter Tryz.func186,Tryz.ntmps186;go_wp2;go_loopg [10] E.length (fun r n wr=>∃k:Nat,r=E.length - k/\k<=E.length/\n= .int .i64 k/\Bb Y s p (L++EW wp wo (E.take k)) wr)
 case atStart=>exact ⟨0,jo,jo,rfl,by simpa [EW] using z.out⟩
 case round=>
  obtain ⟨k,hr,hk,rfl,Q⟩:=hrel;have l:=jp Q;clear Q z;by_cases q:k<E.length
  .obtain ⟨g,o,rfl,R,S⟩:=G k q;have b:=l.out.1;have aa:=b.cell R;have ab:=b.cell S;obtain ⟨e1,e2,e3,e4⟩:=J.out _ (jJ q);obtain ⟨A,c⟩:∃A,A=L++EW wp wo (E.take k):=⟨_,rfl⟩
   have HS:Hid (L++EW wp wo (E.take (k+1))=(A++Ax E[k].1.toNat wp)++Ax (Hk E[k].2) wo):=by
    show _=_;rw [c];simp only [EW];rw [jQ q,List.flatMap_append];simp [MK]
   have ac:A.length<=1082130432:=by
    have:=i.out k;rw [c,jO];omega
   rw [<-c] at l;clear c
   have T:IntKind.u64.wrap E[k].2=(Hk E[k].2:Int):=by
    rw [IntKind.wrap_u64];unfold Hk;omega
   have hu:Hk E[k].2<2 ^ 64:=by unfold Hk;omega
   generalize Hk E[k].2=x2 at *;generalize E[k].1=pt at *;generalize E[k].2=U at *;obtain ⟨V,rfl⟩:∃m:Nat,pt=(m:Int):=⟨pt.toNat,jo⟩
   have ad:(w.heap.size:Nat)<wr.heap.size:=by
    have:=l.out.block f.out;rcases Nat.lt_or_ge w.heap.size wr.heap.size with h|h
    .exact h
    .rw [Array.getElem?_eq_none h] at this;cases this
   obtain ⟨K3,B,C,a⟩:=l.out.box (.cells #[.int .u64 (V:Int),.int .i64 U] 76) (fun H e=>by injection e with _ e;revert e;decide);have M:=jp B;have D:=jp C;have q0:=l.out.cell f.out (j:=0) (u:= .int .i64 (wp:Int)) js;have W:=jp (Jv s p A V wp _ a jo jo jo);clear G R S b i l a B C;have ae:w.heap.size≠wr.heap.size:=jo
   go_wp2_with fail;refine W.out.mono ?_;rintro e w2 ⟨rfl,d⟩;have N:=jp (Jv s p _ x2 wo w2 d (by simp only [jO,Bd];omega) jo hu);have a1:=d.cell M.out (j:=1) (u:= .int .i64 U) js;have q1:=d.cell (D.out _ _ f.out) (j:=1) (u:= .int .i64 (wo:Int)) js;rw [<-T] at N;clear d W q0 T;go_wp2_with fail;refine N.out.mono ?_;rintro e w3 ⟨rfl,F⟩;have O:=jp (F.drop D.out);clear F N a1 q1;go_wp2;go_roundg (E.length - (k+1))
   case measure=>omega
   case rel=>
    refine ⟨k+1,rfl,jo,by go_num,?_⟩;rw [HS.out];exact O.out
  .have HE:Hid (E.take k=E):=jR jo;clear G i;go_wp2;go_end0;refine ⟨rfl,?_⟩;have:=l.out.drop I.out;rw [HE.out] at this;exact this
def JG (f g:Nat) (c:Ac):List Bool:=((((((([]++Az [67,72])++Ax f (8 * 1))++Ax c.alg.toNat (8 * 1))++Ax g (8 * 4))++Ax c.slots.toNat (8 * 2))++Ax c.points.toNat (8 * 1))++Ax c.probes.toNat (8 * 1))++Az c.key.data.toList
def DS (f g:Nat) (c:Ac) (B:List BK) (E:List EI):List Bool:=((JG f g c++Gd B)++Ax E.length (8 * 2))++EW (CO c.alg) (CX f c.alg B.length) E
theorem Ph (f g:Nat) (c:Ac) (a:c.key.size=16):(JG f g c).length=224:=by
 have:c.key.data.size=16:=a;simp [JG,Bd,Bk,this]
theorem M7 {f g:Nat} {c:Ac} {B:List BK} {E:List EI} (a:c.key.size=16) (b:AL B) (i:E.length<=65536):(DS f g c B E).length<=8389600:=by
 have d:=Ph f g c a;have k:=KI b;have l:E.length * (CO c.alg+CX f c.alg B.length)<=65536 * 128:=Nat.mul_le_mul jo (by have:=GJ c.alg;have:=Hs f c.alg B.length;omega);simp only [DS,jO,Bd,L3,d];omega
theorem M9 (f g:Nat) (c:Ac) (B:List BK) (E:List EI) (vP vE:ju) (w:jj) (hf:f<=4611686018427387904) (hg:g<=4611686018427387904) (hc:c.TOK) (Q:Am w vP B) (F:AL B) (R:Bv w vE E) (G:∀e∈E,Fp e) (t:E.length<=65536):
  Calls Tryz.prog 152 #[.int .i64 (f:Int),.int .i64 (g:Int),DW c vP vE] w (DE w (AK (DS f g c B E))):=by
 obtain ⟨aP,u,rfl, -⟩:=Q.open;obtain ⟨S,p,rfl, -⟩:=id R;have h8:=F.1;obtain ⟨t1,t2,t3,t4, -,t5,t6,t7,t8,O⟩:=hc;have T:=M7 (f:=f) (g:=g) (E:=E) O F t;have H:=Ph f g c O;have ab:=KI F;obtain ⟨XB,z⟩:∃X,X=DS f g c B E:=⟨_,rfl⟩;have s:=jp z;rw [<-z] at T |-;clear z;unfold DS JG at s;unfold JG at H;unfold DW;obtain ⟨alg,q,n,o,key,r⟩:=c;simp only at *;obtain ⟨a,rfl⟩:∃m:Nat,alg=(m:Int):=⟨alg.toNat,jo⟩;obtain ⟨sl,rfl⟩:∃m:Nat,q=(m:Int):=⟨q.toNat,jo⟩;obtain ⟨pt,rfl⟩:∃m:Nat,n=(m:Int):=⟨n.toNat,jo⟩;obtain ⟨P,rfl⟩:∃m:Nat,o=(m:Int):=⟨o.toNat,jo⟩;simp only [Int.toNat_natCast] at s H;obtain ⟨d,i⟩:∃d,d=w.alloc (.cells #[.int .i64 (a:Int),.int .i64 (sl:Int),.int .i64 (pt:Int),.int .i64 (P:Int),.string key,.int .i64 r,.slice aP B.length u,.slice S E.length p] 48):=⟨_,rfl⟩;have U:d.heap.size=w.heap.size+1:=by rw [i];simp
 have A:Aa w d:=by rw [i];exact (jD w).step_alloc _
 have q0:d.cell? ⟨w.heap.size,0,none⟩=some (.int .i64 (a:Int)):=by rw [i];simp
 have q1:d.cell? ⟨w.heap.size,1,none⟩=some (.int .i64 (sl:Int)):=by rw [i];simp
 have q2:d.cell? ⟨w.heap.size,2,none⟩=some (.int .i64 (pt:Int)):=by rw [i];simp
 have q3:d.cell? ⟨w.heap.size,3,none⟩=some (.int .i64 (P:Int)):=by rw [i];simp
 have q4:d.cell? ⟨w.heap.size,4,none⟩=some (.string key):=by rw [i];simp
 have q6:d.cell? ⟨w.heap.size,6,none⟩=some (.slice aP B.length u):=by rw [i];simp
 have q7:d.cell? ⟨w.heap.size,7,none⟩=some (.slice S E.length p):=by rw [i];simp
 have HP:=jp (Q.later A);have HE:=jp (R.later A);have V:=jp G;have W:=jp F;have C:=Bb.new d 166;rw [U] at C;have H0:=jp (Gh d (w.heap.size+1) [] ⟨#[67,72]⟩ _ C (by simp [ByteArray.size]));have ac:key.data.toList.length=16:=by rw [Array.length_toList];exact O
 have ad:key.data.size=16:=O;clear C Q R G F;go_enter Tryz.func152,Tryz.ntmps152;go_wp2_with fail;rw [<-i];refine H0.out.mono ?_;rintro e w1 ⟨rfl,b⟩;clear H0;have H1:=jp (Cb d (w.heap.size+1) _ f 1 _ b (by simp [Bk]) jo jo);clear b;go_wp2_with fail;refine H1.out.mono ?_;rintro e w2 ⟨rfl,b⟩;clear H1;have H2:=jp (Cb d (w.heap.size+1) _ a 1 _ b (by simp [Bk,Bd]) jo jo);have x1:=b.1.cell q0;clear b;go_wp2_with fail;refine H2.out.mono ?_;rintro e w3 ⟨rfl,b⟩;clear H2 x1;have H3:=jp (Cb d (w.heap.size+1) _ g 4 _ b (by simp [Bk,Bd]) jo jo);clear b;go_wp2_with fail;refine H3.out.mono ?_;rintro e w4 ⟨rfl,b⟩;clear H3;have H4:=jp (Cb d (w.heap.size+1) _ sl 2 _ b (by simp [Bk,Bd]) jo jo);have x3:=b.1.cell q1;clear b;go_wp2_with fail;refine H4.out.mono ?_;rintro e w5 ⟨rfl,b⟩;clear H4 x3;have H5:=jp (Cb d (w.heap.size+1) _ pt 1 _ b (by simp [Bk,Bd]) jo jo);have x4:=b.1.cell q2;clear b;go_wp2_with fail;refine H5.out.mono ?_;rintro e w6 ⟨rfl,b⟩;clear H5 x4;have H6:=jp (Cb d (w.heap.size+1) _ P 1 _ b (by simp [Bk,Bd]) jo jo);have x5:=b.1.cell q3;clear b;go_wp2_with fail;refine H6.out.mono ?_;rintro e w7 ⟨rfl,b⟩;clear H6 x5;have H7:=jp (Gh d (w.heap.size+1) _ key _ b (by simp [Bk,Bd];omega));have x6:=b.1.cell q4;clear b;go_wp2_with fail;refine H7.out.mono ?_;rintro e w8 ⟨rfl,b⟩;clear H7 x6;generalize Y:((((((([]++Az [67,72])++Ax f (8 * 1))++Ax a (8 * 1))++Ax g (8 * 4))++Ax sl (8 * 2))++Ax pt (8 * 1))++Ax P (8 * 1))++Az key.data.toList=HD at *;clear Y;have H8:=jp (Qc d (w.heap.size+1) _ B _ _ b HP.out W.out jo);have x8:=b.1.cell q6;clear b;go_wp2_with fail;refine H8.out.mono ?_;rintro e w9 ⟨rfl,b⟩;clear H8 x8;have H9:=jp (Cb d (w.heap.size+1) _ E.length 2 _ b (by simp only [jO];omega) jo jo);have x9:=b.1.cell q7;clear b;go_wp2_with fail;refine H9.out.mono ?_;rintro e I ⟨rfl,b⟩;clear H9 x9;have HI:=jp b;have y0:=b.1.cell q0;have y6:=b.1.cell q6;have y7:=b.1.cell q7;have D:=fun Z=>J5 (f:Int) (a:Int) B.length Z h8
 unfold IG at D;have ae:=Hs (f:Int) (a:Int) B.length;have af:=GJ (a:Int);generalize CO (a:Int)=wp at *;generalize CX (f:Int) (a:Int) B.length=wo at *;have J:=fun Z hx=>PH (K:=fun _=>none) d (w.heap.size+1) ((HD++Gd B)++Ax E.length (8 * 2)) wp wo E (.slice S E.length p) Z hx HE.out V.out t jo jo (by simp only [jO,Bd];omega)
 clear b;go_wp2_with fail
 go_region_with (first
   | (go_at_call 150
      refine (D _).mono ?_
      rintro e aa ⟨rfl, l⟩
      have k : Aa I aa := by first | exact l | exact (jB (jD I)).trans l
      have v := jp (HI.out.later k)
      have z7 := k.cell y7
      have z0 := k.cell y0
      have z6 := k.cell y6
      clear l k D)
   | (go_at_call 186
      refine (J _ (by first | exact v.out | exact v.out.later (jB (jD _)))).mono ?_
      rintro e ag ⟨rfl, x⟩
      have L := jp x
      clear x J))
 all_goals
  have hd:=Ij d (w.heap.size+1) _ _ L.out (by rw [<-s.out];omega);rw [<-s.out] at hd;have M:=jp hd;clear hd;go_wp2_with fail;refine M.out.mono ?_;rintro e ah ⟨rfl,y⟩;have N:=jp (A.trans y.1);clear y M;generalize AK XB=PB at *;go_wp2;go_ret;exact ⟨rfl,N.out⟩
end Go.Proofs.YtpapdkhjdelfcaaGreat
