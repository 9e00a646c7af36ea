import Derived.Test.YtpapdkhjdelfcaaGreatMAL
namespace Go.Proofs.YtpapdkhjdelfcaaGreat
open Go.RowKit
set_option maxRecDepth 100000
set_option maxHeartbeats 4000000
abbrev Bl:=Nat×Nat×Nat×Nat×Nat×List UInt8
def Hw (N:Nat):List Bool->Option ((List UInt8×Bl)×List Bool):=
 Bo (DU 1) fun t=>Bo (A9 8) fun k=>if k=1 then Bo (A9 32) fun g=>Bo (A9 8) fun f=>Bo (A9 16) fun c=>Bo (A9 16) fun n=>Bo (DU N) fun s=>DT (t,1,g,f,c,n,s) else DT (t,k,0,0,0,0,[])
def EO (a:Bl):Prop:=a.1=0\/a.1=2\/(a.1=1/\1<=a.2.2.2.2.2.length/\a.2.2.2.2.2.length<=48)
def Zgd (a:Bl):Decidable (EO a):=inferInstanceAs (Decidable (a.1=0\/a.1=2\/(a.1=1/\1<=a.2.2.2.2.2.length/\a.2.2.2.2.2.length<=48)))
def DY (l:jy):Option Bl:=(CQ l).bind fun b=>(Hw (b.length - 11) (Az b)).bind fun y=>haveI:=Zgd y.1.2;if BW (some y.2)=true/\y.1.1=[65]/\EO y.1.2 then some y.1.2 else none
def BP (a:Bl):Value:= .agg #[.int .i64 (a.1:Int),.int .i64 (a.2.1:Int),.int .i64 (a.2.2.1:Int),.int .i64 (a.2.2.2.1:Int),.int .i64 (a.2.2.2.2.1:Int),.string (Ai a.2.2.2.2.2)]
def CR:Option Bl->Value
 |some a=> .tuple #[BP a,.bool true]
 |none=> .tuple #[BP (0,0,0,0,0,[]),.bool false]
def Lz (w:jj) (o:Option Bl) (e:Ending) (w':jj):Prop:=e= .returned (CR o)/\Aa w w'
theorem Zcn:Ai []=⟨#[]⟩:=rfl
theorem U6 {l:jy} (h:CQ l=none):DY l=none:=by simp [DY,h]
theorem O1 {l b:jy} {o:Option (List Bool)} {t:jy} {a:Bl} (d:CQ l=some b) (f:(some (Az b)).bind (Hw (b.length - 11))=o.map (Prod.mk (t,a))):DY l=haveI:=Zgd a;if BW o=true/\t=[65]/\EO a then some a else none:=by
 have c:Hw (b.length - 11) (Az b)=o.map (Prod.mk (t,a)):=f;rw [DY,d,Option.bind_some,c];cases o with
 |none=>simp [BW]
 |some X=>rfl
theorem Aa.sets6 {w V:jj} {r:Nat} (h:Aa w V) (a:w.heap.size<=r) (u0 u1 u2 u3 u4 u5:ju):Aa w ((((((V.setCell ⟨r,0,none⟩ u0).setCell ⟨r,1,none⟩ u1).setCell ⟨r,2,none⟩ u2).setCell ⟨r,3,none⟩ u3).setCell ⟨r,4,none⟩ u4).setCell ⟨r,5,none⟩ u5):=
 (h.sets5 a u0 u1 u2 u3 u4).step_set (p:=⟨r,5,none⟩) a _
theorem Ob (q k:Nat) (l m n o:ju) (a:Bl) (w:jj) (h:Ae q 109 #[.int .i64 (k:Int),l,m,n,o,.string (Ai a.2.2.2.2.2)] w) (g:a.1=k):
  Calls Tryz.prog 174 #[.pointer (some ⟨q,0,none⟩)] w (Hv (EO a) w):=by
 have b:=h.cell 0 rfl;have r:=h.cell 5 rfl;have d:(Ai a.2.2.2.2.2).size=a.2.2.2.2.2.length:=by simp [Ai,ByteArray.size]
 have c:Hid (EO a↔(k=0\/k=2\/(k=1/\1<=(Ai a.2.2.2.2.2).size/\(Ai a.2.2.2.2.2).size<=48))):=by show _↔_;rw [d,<-g];rfl
 clear h d g;generalize Ai a.2.2.2.2.2=s at *;by_cases f:k=0
 .subst f;replace b:w.cell? ⟨q,0,none⟩=some (.int .i64 0):=b;go_enter Tryz.func174,Tryz.ntmps174;go_wp2;go_ret;exact ⟨true,rfl,jq,⟨fun _=>c.out.2 js,fun _=>rfl⟩⟩
 by_cases i:k=2
 .subst i;replace b:w.cell? ⟨q,0,none⟩=some (.int .i64 2):=b;go_enter Tryz.func174,Tryz.ntmps174;go_wp2;go_ret;exact ⟨true,rfl,jq,⟨fun _=>c.out.2 js,fun _=>rfl⟩⟩
 by_cases p:k=1
 .subst p;replace b:w.cell? ⟨q,0,none⟩=some (.int .i64 1):=b;clear f i;by_cases t:1<=s.size
  .go_enter Tryz.func174,Tryz.ntmps174;go_wp2;go_ret
   exact ⟨decide ((s.size : Int) <= 48), rfl, by exact jq, ⟨fun h => c.out.2 (by have u := of_decide_eq_true h; simp; omega), fun h => by
     rcases c.out.1 h with h | h | h
     . omega
     . omega
     . exact jL jo⟩⟩
  .go_enter Tryz.func174,Tryz.ntmps174;go_wp2;go_ret;exact ⟨false,rfl,jq,⟨fun h=>(by cases h),fun h=>by rcases c.out.1 h with h|h|h <;>omega⟩⟩
 .have v:((k:Int)==0)=false:=by simp [f]
  have x:((k:Int)==2)=false:=jx
  have y:((k:Int)==1)=false:=jx
  go_enter Tryz.func174,Tryz.ntmps174;go_wp2;go_ret;exact ⟨false,rfl,jq,⟨fun h=>(by cases h),fun h=>by rcases c.out.1 h with h|h|h <;>omega⟩⟩
theorem Wl (t:jt) (w:jj) (ht:t.size<=1099511627776):
  Calls Tryz.prog 134 #[.string t] w (Lz w (DY t.data.toList)):=by
 have K:=jp (Ae.new w 109 #[.int .i64 0,.int .i64 0,.int .i64 0,.int .i64 0,.int .i64 0,.string ⟨#[]⟩]);cases L:CQ t.data.toList with
 |none=>
  rw [U6 L];have Y:=fun wx=>GT t wx ht
  rw [L] at Y;unfold Ga Gr at Y;go_enter Tryz.func134,Tryz.ntmps134;go_wp2_with fail;refine (Y _).mono ?_;rintro e w1 ⟨rfl,u⟩;have J:=K.out.bel u;have D:=J.cell 0 rfl;have f0:=J.free 0;have E:=J.cell 1 rfl;have f1:=J.free 1;have F:=J.cell 2 rfl;have f2:=J.free 2;have G:=J.cell 3 rfl;have f3:=J.free 3;have H:=J.cell 4 rfl;have f4:=J.free 4;have I:=J.cell 5 rfl;have f5:=J.free 5;have au:Hid (Aa w w1):=((jD w).step_alloc _).trans u;clear J K u Y;go_wp2;exact bodyPost_ret (v:=CR none) (by simp [CR,BP,Zcn,results,Tryz.results134,go_sem,D,E,F,G,H,I]) rfl ⟨rfl,au.out.sets6 (jH _) _ _ _ _ _ _⟩
 |some b=>
  have ac:Hid ((Ai b).size=b.length):=by show _=_;simp [Ai,ByteArray.size]
  have Z:Hid (b.length<=t.size):=by
   show _<=_;unfold CQ at L;split at L
   .cases L
   .split at L
    .injection L with e
     rw [<-e,jk];have:t.data.toList.length=t.size:=by rw [Array.length_toList];rfl
     omega
    .cases L
  have Y:=fun wx=>GT t wx ht
  rw [L] at Y;unfold Ga Gr at Y;go_enter Tryz.func134,Tryz.ntmps134;go_wp2_with fail;refine (Y _).mono ?_;rintro e w1 ⟨rfl,u⟩;go_wp2_with fail;refine (JQ _ _).mono ?_;rintro e w2 ⟨rfl,ad⟩;obtain ⟨W0,aa⟩:∃W0,W0=w.alloc (.cells #[.int .i64 0,.int .i64 0,.int .i64 0,.int .i64 0,.int .i64 0,.string ⟨#[]⟩] 109):=⟨_,rfl⟩;rw [<-aa] at K u;have af:=Rs.new w2 b 161;have ag:Ab [w2.heap.size] W0 (w2.alloc (.cells #[.string (Ai b),.int .u64 0,.bool false] 161)):=Ab.of_bel ((u.trans ad).step_alloc _);have H1:=jp (Hf w2.heap.size _ 1 _ af jo);have ay:W0.heap.size<=w2.heap.size:=(u.trans ad).size;have q:Hid (w.heap.size<W0.heap.size):=by show _<_;rw [aa];simp
  have ah:Hid (Aa w W0):=by show Aa w W0;rw [aa];exact (jD w).step_alloc _
  have ai:=jp ag;clear u ad Y af ag aa;go_wp2_with fail;refine H1.out.mono ?_;rintro e X ⟨l,o1,rfl,aj,ak,av,M⟩;have i:=jp (St.new (tq:=109) (qc:=#[.int .i64 0,.int .i64 0,.int .i64 0,.int .i64 0,.int .i64 0,.string ⟨#[]⟩]) (ai.out.trans aj) ak);have ab:=jp M;have y:((Ai l).toList==[65])=decide (l=[65]):=KK l [65];clear aj ak av M H1 ai;have K0:=jp (Cp _ _ 1 _ i.out.rs jo);go_wp2_with fail;refine K0.out.mono ?_;rintro e v0 ⟨k,o2,rfl,z,A, -,al⟩;have N:=i.out.read z A;have g0:=N.box.cell 0 rfl;have k0:=N.box.free 0;replace i:=jp (N.put 0 (.int .i64 (k:Int)) (qc':=#[.int .i64 (k:Int),.int .i64 0,.int .i64 0,.int .i64 0,.int .i64 0,.string ⟨#[]⟩]) rfl);have P0:=jp al;clear z A al K0;have O:=jp N;clear N;by_cases ae:k=1
  rotate_left
  .have e1:((k:Int)==1)=false:=jx
   have PX:Hid ((some (Az b)).bind (Hw (b.length - 11))=o2.map (Prod.mk (l,(k,0,0,0,0,[])))):=by
    refine Bw ab.out (Bw P0.out ?_);rw [if_neg ae];exact GK _
   clear ab P0 ac Z ae;have d:Hid (DY t.data.toList=haveI:=Zgd (k,0,0,0,0,[]);if BW o2=true/\l=[65]/\EO (k,0,0,0,0,[]) then some (k,0,0,0,0,[]) else none):=O1 L (PX.out);have aw:w.heap.size≠X.heap.size:=by have:=q.out;have:=i.out.2.2.2.1;omega
   have B:Hid (Aa w (v0.setCell ⟨X.heap.size,0,none⟩ (.int .i64 (k:Int)))):=Ab.belTo ah.out i.out.1 (fun j hj=>by have:=q.out;simp at hj;omega);by_cases hl:l=[65]
   rotate_left
   .have P:((Ai l).toList==[65])=false:=by rw [y];exact jK hl
    rw [if_neg (fun e=>hl e.2.1)] at d;have a:=K.out.but O.out.1 (by have:=q.out;simp;omega);have D:=a.cell 0 rfl;have f0:=a.free 0;have E:=a.cell 1 rfl;have f1:=a.free 1;have F:=a.cell 2 rfl;have f2:=a.free 2;have G:=a.cell 3 rfl;have f3:=a.free 3;have H:=a.cell 4 rfl;have f4:=a.free 4;have I:=a.cell 5 rfl;have f5:=a.free 5;clear a y i hl O K q;go_wp2;rw [d.out];exact bodyPost_ret (v:=CR none) (by simp [CR,BP,Zcn,results,Tryz.results134,go_sem,D,E,F,G,H,I]) rfl ⟨rfl,B.out.sets6 (jH _) _ _ _ _ _ _⟩
   .subst hl;have H9:=jp (I7 _ _ _ i.out.rs);have C:=jp i.out.box;have P:((Ai [65]).toList==[65])=true:=by rw [y];simp
    have m:=jp (K.out.but i.out.1 (by have:=q.out;simp;omega));clear y i O K q;go_wp2_with fail;refine H9.out.mono ?_;rintro e w9 ⟨rfl,r⟩;replace m:=jp (m.out.bel r);replace C:=jp (C.out.bel r);replace B:=jp (B.out.trans r);clear r H9 g0 k0;cases hx:BW o2
    .rw [if_neg (fun e=>by rw [hx] at e;exact absurd e.1 js)] at d;have a:=m.out;have D:=a.cell 0 rfl;have f0:=a.free 0;have E:=a.cell 1 rfl;have f1:=a.free 1;have F:=a.cell 2 rfl;have f2:=a.free 2;have G:=a.cell 3 rfl;have f3:=a.free 3;have H:=a.cell 4 rfl;have f4:=a.free 4;have I:=a.cell 5 rfl;have f5:=a.free 5;clear a m C;go_wp2;rw [d.out];exact bodyPost_ret (v:=CR none) (by simp [CR,BP,Zcn,results,Tryz.results134,go_sem,D,E,F,G,H,I]) rfl ⟨rfl,B.out.sets6 (jH _) _ _ _ _ _ _⟩
    .have Q:=jp (Ob X.heap.size k _ _ _ _ (k,0,0,0,0,[]) w9 C.out rfl);go_wp2_with fail;refine Q.out.mono ?_;rintro e ax ⟨x,rfl,o,R⟩;replace m:=jp (m.out.bel o);replace C:=jp (C.out.bel o);replace B:=jp (B.out.trans o);have HX:=jp R;have a:=m.out;have p:=C.out;have D:=a.cell 0 rfl;have f0:=a.free 0;have E:=a.cell 1 rfl;have f1:=a.free 1;have F:=a.cell 2 rfl;have f2:=a.free 2;have G:=a.cell 3 rfl;have f3:=a.free 3;have H:=a.cell 4 rfl;have f4:=a.free 4;have I:=a.cell 5 rfl;have f5:=a.free 5;have a0:=p.cell 0 rfl;have b0:=p.free 0;have a1:=p.cell 1 rfl;have b1:=p.free 1;have a2:=p.cell 2 rfl;have b2:=p.free 2;have a3:=p.cell 3 rfl;have b3:=p.free 3;have a4:=p.cell 4 rfl;have b4:=p.free 4;have a5:=p.cell 5 rfl;have b5:=p.free 5;clear a p m C o Q R;cases x
     .rw [if_neg (fun e=>absurd (HX.out.2 e.2.2) js)] at d;go_wp2;rw [d.out];exact bodyPost_ret (v:=CR none) (by simp [CR,BP,Zcn,results,Tryz.results134,go_sem,D,E,F,G,H,I]) rfl ⟨rfl,B.out.sets6 (jH _) _ _ _ _ _ _⟩
     .rw [if_pos ⟨hx,js,HX.out.1 rfl⟩] at d;go_wp2;rw [d.out];exact bodyPost_ret (v:=CR (some (k,0,0,0,0,[]))) (by simp [CR,BP,Zcn,results,Tryz.results134,go_sem,D,E,F,G,H,I]) rfl ⟨rfl,B.out.sets6 (jH _) _ _ _ _ _ _⟩
  .subst ae;replace i:Hid (St W0 w2.heap.size o2 X.heap.size 109 #[.int .i64 1,.int .i64 0,.int .i64 0,.int .i64 0,.int .i64 0,.string ⟨#[]⟩] (v0.setCell ⟨X.heap.size,0,none⟩ (.int .i64 1))):=i;have K1:=jp (Cp _ _ 4 _ i.out.rs jo);go_wp2_with fail;refine K1.out.mono ?_;rintro e v1 ⟨g,o3,rfl,z,A, -,M⟩;have S:=i.out.read z A;have g1:=S.box.cell 1 rfl;have k1:=S.box.free 1;replace i:=jp (S.put 1 (.int .i64 (g:Int)) (qc':=#[.int .i64 1,.int .i64 (g:Int),.int .i64 0,.int .i64 0,.int .i64 0,.string ⟨#[]⟩]) rfl);have P1:=jp M;clear z A M K1;have O:=jp S;clear S;have K2:=jp (Cp _ _ 1 _ i.out.rs jo);go_wp2_with fail;refine K2.out.mono ?_;rintro e v2 ⟨f,o4,rfl,z,A, -,am⟩;have T:=i.out.read z A;have g2:=T.box.cell 2 rfl;have k2:=T.box.free 2;replace i:=jp (T.put 2 (.int .i64 (f:Int)) (qc':=#[.int .i64 1,.int .i64 (g:Int),.int .i64 (f:Int),.int .i64 0,.int .i64 0,.string ⟨#[]⟩]) rfl);have P2:=jp am;clear z A am K2;have O:=jp T;clear T;have K3:=jp (Cp _ _ 2 _ i.out.rs jo);go_wp2_with fail;refine K3.out.mono ?_;rintro e v3 ⟨c,o5,rfl,z,A, -,an⟩;have U:=i.out.read z A;have g3:=U.box.cell 3 rfl;have k3:=U.box.free 3;replace i:=jp (U.put 3 (.int .i64 (c:Int)) (qc':=#[.int .i64 1,.int .i64 (g:Int),.int .i64 (f:Int),.int .i64 (c:Int),.int .i64 0,.string ⟨#[]⟩]) rfl);have P3:=jp an;clear z A an K3;have O:=jp U;clear U;have K4:=jp (Cp _ _ 2 _ i.out.rs jo);go_wp2_with fail;refine K4.out.mono ?_;rintro e v4 ⟨n,o6,rfl,z,A, -,ao⟩;have V:=i.out.read z A;have g4:=V.box.cell 4 rfl;have k4:=V.box.free 4;replace i:=jp (V.put 4 (.int .i64 (n:Int)) (qc':=#[.int .i64 1,.int .i64 (g:Int),.int .i64 (f:Int),.int .i64 (c:Int),.int .i64 (n:Int),.string ⟨#[]⟩]) rfl);have P4:=jp ao;clear z A ao K4;have O:=jp V;clear V
   have H7:Hid (Calls Tryz.prog 121 #[.pointer (some ⟨w2.heap.size,0,none⟩),.int .i64 ((b.length:Int) - 11)] (v4.setCell ⟨X.heap.size,4,none⟩ (.int .i64 (n:Int))) (LG w2.heap.size (b.length - 11) o6 (v4.setCell ⟨X.heap.size,4,none⟩ (.int .i64 (n:Int))))):=by
    show Calls _ _ _ _ _;by_cases az:11<=b.length
    .have:=Hf _ _ (b.length - 11) _ i.out.rs (by have:=Z.out;omega);rw [show ((b.length - 11:Nat):Int)=(b.length:Int) - 11 by omega] at this;exact this
    .rw [show b.length - 11=0 by omega];exact Vg _ _ _ _ i.out.rs jo
   have ap:=ac.out;have aq:=jX Z.out ht;go_wp2_with fail;refine H7.out.mono ?_;rintro e v5 ⟨s,o7,rfl,z,A, -,ar⟩;have W:=i.out.read z A;have g5:=W.box.cell 5 rfl;have k5:=W.box.free 5;replace i:=jp (W.put 5 (.string (Ai s)) (qc':=#[.int .i64 1,.int .i64 (g:Int),.int .i64 (f:Int),.int .i64 (c:Int),.int .i64 (n:Int),.string (Ai s)]) rfl);have P5:=jp ar;clear z A ar H7;have O:=jp W;clear W
   have PX:Hid ((some (Az b)).bind (Hw (b.length - 11))=o7.map (Prod.mk (l,(1,g,f,c,n,s)))):=by
    refine Bw ab.out (Bw P0.out ?_);rw [if_pos rfl];exact Bw P1.out (Bw P2.out (Bw P3.out (Bw P4.out (Bw P5.out (GK _)))))
   clear ab P0 P1 P2 P3 P4 P5 ac Z ap aq;have d:Hid (DY t.data.toList=haveI:=Zgd (1,g,f,c,n,s);if BW o7=true/\l=[65]/\EO (1,g,f,c,n,s) then some (1,g,f,c,n,s) else none):=O1 L (PX.out);have aw:w.heap.size≠X.heap.size:=by have:=q.out;have:=i.out.2.2.2.1;omega
   have B:Hid (Aa w (v5.setCell ⟨X.heap.size,5,none⟩ (.string (Ai s)))):=Ab.belTo ah.out i.out.1 (fun j hj=>by have:=q.out;simp at hj;omega);by_cases hl:l=[65]
   rotate_left
   .have P:((Ai l).toList==[65])=false:=by rw [y];exact jK hl
    rw [if_neg (fun e=>hl e.2.1)] at d;have a:=K.out.but O.out.1 (by have:=q.out;simp;omega);have D:=a.cell 0 rfl;have f0:=a.free 0;have E:=a.cell 1 rfl;have f1:=a.free 1;have F:=a.cell 2 rfl;have f2:=a.free 2;have G:=a.cell 3 rfl;have f3:=a.free 3;have H:=a.cell 4 rfl;have f4:=a.free 4;have I:=a.cell 5 rfl;have f5:=a.free 5;clear a y i hl O K q;go_wp2;rw [d.out];exact bodyPost_ret (v:=CR none) (by simp [CR,BP,Zcn,results,Tryz.results134,go_sem,D,E,F,G,H,I]) rfl ⟨rfl,B.out.sets6 (jH _) _ _ _ _ _ _⟩
   .subst hl;have H9:=jp (I7 _ _ _ i.out.rs);have C:=jp i.out.box;have P:((Ai [65]).toList==[65])=true:=by rw [y];simp
    have m:=jp (K.out.but i.out.1 (by have:=q.out;simp;omega));clear y i O K q;go_wp2_with fail;refine H9.out.mono ?_;rintro e w9 ⟨rfl,r⟩;replace m:=jp (m.out.bel r);replace C:=jp (C.out.bel r);replace B:=jp (B.out.trans r);clear r H9 g0 g1 g2 g3 g4 g5 k0 k1 k2 k3 k4 k5;cases hx:BW o7
    .rw [if_neg (fun e=>by rw [hx] at e;exact absurd e.1 js)] at d;have a:=m.out;have D:=a.cell 0 rfl;have f0:=a.free 0;have E:=a.cell 1 rfl;have f1:=a.free 1;have F:=a.cell 2 rfl;have f2:=a.free 2;have G:=a.cell 3 rfl;have f3:=a.free 3;have H:=a.cell 4 rfl;have f4:=a.free 4;have I:=a.cell 5 rfl;have f5:=a.free 5;clear a m C;go_wp2;rw [d.out];exact bodyPost_ret (v:=CR none) (by simp [CR,BP,Zcn,results,Tryz.results134,go_sem,D,E,F,G,H,I]) rfl ⟨rfl,B.out.sets6 (jH _) _ _ _ _ _ _⟩
    .have Q:=jp (Ob X.heap.size 1 _ _ _ _ (1,g,f,c,n,s) w9 C.out rfl);go_wp2_with fail;refine Q.out.mono ?_;rintro e ax ⟨x,rfl,o,R⟩;replace m:=jp (m.out.bel o);replace C:=jp (C.out.bel o);replace B:=jp (B.out.trans o);have HX:=jp R;have a:=m.out;have p:=C.out;have D:=a.cell 0 rfl;have f0:=a.free 0;have E:=a.cell 1 rfl;have f1:=a.free 1;have F:=a.cell 2 rfl;have f2:=a.free 2;have G:=a.cell 3 rfl;have f3:=a.free 3;have H:=a.cell 4 rfl;have f4:=a.free 4;have I:=a.cell 5 rfl;have f5:=a.free 5;have a0:=p.cell 0 rfl;have b0:=p.free 0;have a1:=p.cell 1 rfl;have b1:=p.free 1;have a2:=p.cell 2 rfl;have b2:=p.free 2;have a3:=p.cell 3 rfl;have b3:=p.free 3;have a4:=p.cell 4 rfl;have b4:=p.free 4;have a5:=p.cell 5 rfl;have b5:=p.free 5;clear a p m C o Q R;cases x
     .rw [if_neg (fun e=>absurd (HX.out.2 e.2.2) js)] at d;go_wp2;rw [d.out];exact bodyPost_ret (v:=CR none) (by simp [CR,BP,Zcn,results,Tryz.results134,go_sem,D,E,F,G,H,I]) rfl ⟨rfl,B.out.sets6 (jH _) _ _ _ _ _ _⟩
     .rw [if_pos ⟨hx,js,HX.out.1 rfl⟩] at d;go_wp2;rw [d.out];exact bodyPost_ret (v:=CR (some (1,g,f,c,n,s))) (by simp [CR,BP,results,Tryz.results134,go_sem,D,E,F,G,H,I]) rfl ⟨rfl,B.out.sets6 (jH _) _ _ _ _ _ _⟩
abbrev GE:=Nat×Nat×Ac×List BK×List EI
def Eg {α β:Type} (P:List Bool->Option (α×List Bool)) (k:α->Option (List Bool)->Option β) (o:Option (List Bool)):Option β:=(o.bind P).bind fun y=>k y.1 (some y.2)
theorem FO {α β:Type} {P:List Bool->Option (α×List Bool)} {k:α->Option (List Bool)->Option β} {o o':Option (List Bool)} {a:α} (h:o.bind P=o'.map (Prod.mk a)) (b:k a none=none):Eg P k o=k a o':=by
 unfold Eg;rw [h];cases o' with
 |none=>exact b.symm
 |some X=>rfl
def Zf7 (c:Ac):Decidable c.TOK:=
 decidable_of_iff (1<=c.alg/\c.alg<=4/\3<=c.slots/\c.slots<=211/\(∀d,d<c.slots.toNat->2<=d->c.slots % (d:Int)≠0)/\1<=c.points/\c.points<=3/\1<=c.probes/\c.probes<=5/\c.key.size=16)
  ⟨fun ⟨f,g,i,k,l,h⟩=>⟨f,g,i,k,fun d a b=>l d jo a,h⟩,fun ⟨f,g,i,k,l,h⟩=>⟨f,g,i,k,fun d a b=>l d b jo,h⟩⟩
def Zf5 (B:List BK):Decidable (AH B):=inferInstanceAs (Decidable ((B.length<=8/\∀b∈B,1<=b.1.size/\b.1.size<=8/\0<=b.2/\b.2<=6)/\B.Pairwise fun a b=>AO a.1 b.1=true))
def Zf9 (B:List BK) (x:Int):Decidable (Fr B x):=
 decidable_of_iff (0<=x/\∃b∈B[x.toNat]?,0<b.2)
  ⟨fun ⟨d, b, c, a⟩ => by obtain ⟨h, rfl⟩ := List.getElem?_eq_some_iff.1 (Option.mem_def.1 c); exact ⟨x.toNat, h, jo, a⟩,
   fun ⟨j, h, e, a⟩ => by subst e; exact ⟨jo, B[j], by rw [Int.toNat_natCast]; exact jG h, a⟩⟩
def Zgc (a b:EI):Decidable (Ii a b):=inferInstanceAs (Decidable (¬(b.1<a.1\/(a.1=b.1/\b.2<a.2))))
def Zge (E:List EI):Decidable (GC E):=
 haveI:=Zgc
 decidable_of_iff (∀i,i<E.length->∀h:i+1<E.length,Ii E[i] E[i+1]) ⟨fun k i h=>k i jo h,fun k i _ h=>k i h⟩
def Zgb (c:Ac) (B:List BK) (E:List EI):Decidable (Gs c B E):=inferInstanceAs (Decidable (∀j (h:j<B.length),(Dg E j:Int)=Ei c * B[j].2))
def Zf8 (c:Ac) (B:List BK) (E:List EI):Decidable (IN c B E):=
 haveI:=Zf9;haveI:=Zge;haveI:=Zgb
 inferInstanceAs (Decidable ((E.length:Int)=GM c B/\(∀e∈E,Fr B e.2)/\(Fq c.alg=true->GC E/\Gs c B E)))
def Zf6 (g:Nat) (c:Ac) (B:List BK) (E:List EI):Decidable (DR g c B E):=
 haveI:=Zf8;inferInstanceAs (Decidable ((1<=g/\g<=1073741824)/\IN c B E))
def II (f g:Nat) (c:Ac) (B:List BK) (E:List EI) (o:Option (List Bool)):Option GE:=haveI:=Zf6 g c B E;if BW o=true/\DR g c B E then some (f,g,c,B,E) else none
def Lp (f g:Nat) (c:Ac) (B:List BK) (n:Nat):Option (List Bool)->Option GE:=Eg (BY (FB (CO c.alg) (CX f c.alg B.length)) n) fun E=>II f g c B E
def Ky (f g:Nat) (c:Ac) (B:List BK):Option (List Bool)->Option GE:=Eg (A9 16) fun n=>Lp f g c B n
def KO (f g:Nat) (c:Ac):Option (List Bool)->Option GE:=Eg Ie fun B o=>haveI:=Zf5 B;if AH B then Ky f g c B o else none
def Jc:Option (List Bool)->Option GE:=Eg Im fun h o=>haveI:=Zf7 h.2.2;if (1<=h.1/\h.1<=2)/\h.2.2.TOK then KO h.1 h.2.1 h.2.2 o else none
def Kf:Option (List Bool)->Option GE:=Eg (DU 2) fun t o=>if t=[67,72] then Jc o else none
def Bj (l:jy):Option GE:=(CQ l).bind fun b=>Kf (some (Az b))
theorem RK (f g:Nat) (c:Ac) (B:List BK) (E:List EI):II f g c B E none=none:=by unfold II BW;exact if_neg (fun h=>by cases h.1)
theorem Yx {o o':Option (List Bool)} {t:jy} (h:o.bind (DU 2)=o'.map (Prod.mk t)):Kf o=if t=[67,72] then Jc o' else none:=FO h (by split <;>rfl)
theorem Vo {o o':Option (List Bool)} {f g:Nat} {c:Ac} (h:o.bind Im=o'.map (Prod.mk (f,g,c))):Jc o=haveI:=Zf7 c;if (1<=f/\f<=2)/\c.TOK then KO f g c o' else none:=FO h (by split <;>rfl)
theorem QD {o o':Option (List Bool)} {f g:Nat} {c:Ac} {B:List BK} (h:o.bind Ie=o'.map (Prod.mk B)):KO f g c o=haveI:=Zf5 B;if AH B then Ky f g c B o' else none:=FO h (by split <;>rfl)
theorem Uh {o o':Option (List Bool)} {f g n:Nat} {c:Ac} {B:List BK} (h:o.bind (A9 16)=o'.map (Prod.mk n)):Ky f g c B o=Lp f g c B n o':=FO h rfl
theorem UX {o o':Option (List Bool)} {f g n:Nat} {c:Ac} {B:List BK} {E:List EI} (h:o.bind (BY (FB (CO c.alg) (CX f c.alg B.length)) n)=o'.map (Prod.mk E)):Lp f g c B n o=II f g c B E o':=FO h (RK ..)
def CU:Value:= .tuple #[.agg #[.int .i64 0,.int .i64 0,.int .i64 0,.int .i64 0,.int .i64 0,.int .i64 0,.string ⟨#[]⟩,.int .i64 0,.slice none 0 0,.slice none 0 0],.bool false]
def FH (w:jj) (o:Option GE) (e:Ending) (w':jj):Prop:=Aa w w'/\match o with
 |none=>e= .returned CU
 |some (f,g,c,B,E)=>∃a b,e= .returned (.tuple #[D8 f g c a b,.bool true])/\AJ w.heap.size w' a B/\AS w.heap.size w' b E
theorem Aa.sets10 {w V:jj} {r:Nat} (h:Aa w V) (a:w.heap.size<=r) (u0 u1 u2 u3 u4 u5 u6 u7 u8 u9:ju):Aa w ((((((((((V.setCell ⟨r,0,none⟩ u0).setCell ⟨r,1,none⟩ u1).setCell ⟨r,2,none⟩ u2).setCell ⟨r,3,none⟩ u3).setCell ⟨r,4,none⟩ u4).setCell ⟨r,5,none⟩ u5).setCell ⟨r,6,none⟩ u6).setCell ⟨r,7,none⟩ u7).setCell ⟨r,8,none⟩ u8).setCell ⟨r,9,none⟩ u9):=
 ((((h.sets6 a u0 u1 u2 u3 u4 u5).step_set (p:=⟨r,6,none⟩) a _).step_set (p:=⟨r,7,none⟩) a _).step_set (p:=⟨r,8,none⟩) a _).step_set (p:=⟨r,9,none⟩) a _
theorem JL (t:jt) (w:jj) (ht:t.size<=1099511627776):
  Calls Tryz.prog 100 #[.string t] w (FH w (Bj t.data.toList)):=by
 have HR:=jp (Ae.new w 135 #[.int .i64 0,.int .i64 0,.int .i64 0,.int .i64 0,.int .i64 0,.int .i64 0,.string ⟨#[]⟩,.int .i64 0,.slice none 0 0,.slice none 0 0]);cases hO:CQ t.data.toList with
 |none=>
  have cb:Hid (Bj t.data.toList=none):=by show _=_;simp [Bj,hO]
  have H0:=fun T=>GT t T ht
  rw [hO] at H0;unfold Ga Gr at H0;go_enter Tryz.func100,Tryz.ntmps100;go_wp2_with fail;refine (H0 _).mono ?_;rintro e w1 ⟨rfl,A⟩;have y:=HR.out.bel A;have G:=y.cell 0 rfl;have s0:=y.free 0;have H:=y.cell 1 rfl;have s1:=y.free 1;have I:=y.cell 2 rfl;have s2:=y.free 2;have J:=y.cell 3 rfl;have s3:=y.free 3;have K:=y.cell 4 rfl;have s4:=y.free 4;have L:=y.cell 5 rfl;have s5:=y.free 5;have M:=y.cell 6 rfl;have s6:=y.free 6;have N:=y.cell 7 rfl;have s7:=y.free 7;have O:=y.cell 8 rfl;have s8:=y.free 8;have P:=y.cell 9 rfl;have s9:=y.free 9;have cc:Hid (Aa w w1):=((jD w).step_alloc _).trans A;clear y HR A H0;go_wp2;rw [cb.out];exact bodyPost_ret (v:=CU) (by simp [CU,results,Tryz.results100,go_sem,G,H,I,J,K,L,M,N,O,P]) rfl ⟨cc.out.sets10 (jH _) _ _ _ _ _ _ _ _ _ _,rfl⟩
 |some b=>
  have ax:Hid (Bj t.data.toList=Kf (some (Az b))):=by show _=_;simp [Bj,hO]
  have H0:=fun T=>GT t T ht
  rw [hO] at H0;unfold Ga Gr at H0;go_enter Tryz.func100,Tryz.ntmps100;go_wp2_with fail;refine (H0 _).mono ?_;rintro e w1 ⟨rfl,A⟩;go_wp2_with fail;refine (JQ _ _).mono ?_;rintro e w2 ⟨rfl,aj⟩;obtain ⟨W0,ad⟩:∃W0,W0=w.alloc (.cells #[.int .i64 0,.int .i64 0,.int .i64 0,.int .i64 0,.int .i64 0,.int .i64 0,.string ⟨#[]⟩,.int .i64 0,.slice none 0 0,.slice none 0 0] 135):=⟨_,rfl⟩;rw [<-ad] at HR A;have ay:=Rs.new w2 b 161;have az:Ab [w2.heap.size] W0 (w2.alloc (.cells #[.string (Ai b),.int .u64 0,.bool false] 161)):=Ab.of_bel ((A.trans aj).step_alloc _);have H1:=jp (Hf w2.heap.size _ 2 _ ay jo);have ck:W0.heap.size<=w2.heap.size:=(A.trans aj).size;have u:Hid (w.heap.size<W0.heap.size):=by show _<_;rw [ad];simp
  have Q:Hid (Aa w W0):=by show Aa w W0;rw [ad];exact (jD w).step_alloc _
  have ba:=jp az;have S:=HR;clear A aj H0 ay az ad HR;go_wp2_with fail;refine H1.out.mono ?_;rintro e w3 ⟨l,o1,rfl,bb,bc,cd,bd⟩;have Z:=jp (ba.out.trans bb);have ak:=jp bc;have aa:Hid (Bj t.data.toList=if l=[67,72] then Jc o1 else none):=ax.out.trans (Yx bd);have ae:((Ai l).toList==[67,72])=decide (l=[67,72]):=KK l [67,72];clear bb bc cd bd H1 ba ax;by_cases hl:l=[67,72]
  rotate_left
  .have be:((Ai l).toList==[67,72])=false:=by rw [ae];exact jK hl
   clear ae;have R:=S.out.but (Z.out) (by have:=u.out;simp;omega);have W:=jp (Ab.belTo Q.out (Z.out) (fun j X=>by have:=u.out;simp at X;omega));have G:=R.cell 0 rfl;have s0:=R.free 0;have H:=R.cell 1 rfl;have s1:=R.free 1;have I:=R.cell 2 rfl;have s2:=R.free 2;have J:=R.cell 3 rfl;have s3:=R.free 3;have K:=R.cell 4 rfl;have s4:=R.free 4;have L:=R.cell 5 rfl;have s5:=R.free 5;have M:=R.cell 6 rfl;have s6:=R.free 6;have N:=R.cell 7 rfl;have s7:=R.free 7;have O:=R.cell 8 rfl;have s8:=R.free 8;have P:=R.cell 9 rfl;have s9:=R.free 9;have r:Hid (Bj t.data.toList=none):=by rw [if_neg hl] at aa;exact aa
   clear R hl Z ak;go_wp2;rw [r.out];exact bodyPost_ret (v:=CU) (by simp [CU,results,Tryz.results100,go_sem,G,H,I,J,K,L,M,N,O,P]) rfl ⟨W.out.sets10 (jH _) _ _ _ _ _ _ _ _ _ _,rfl⟩
  rw [if_pos hl] at aa;have be:((Ai l).toList==[67,72])=true:=by rw [ae];exact jL hl
  have H4:=jp (VO _ _ _ ak.out);clear ae hl;go_wp2_with fail;refine H4.out.mono ?_;rintro e w4 ⟨f,g,c,o2,rfl,bf,bg,bh,hg,hf⟩;have Y:Hid (Bj t.data.toList=Jc o1):=aa;replace Y:=jp (Y.out.trans (Vo bh));clear aa bh H4;have bi:=fun T=>Pb (f:Int) T
  have bj:=fun T=>OT c T
  have ce:Hid (c=⟨c.alg,c.slots,c.points,c.probes,c.key,c.formats⟩):=rfl;have al:=fun n T hn=>J5 (f:Int) c.alg n T hn
  have am:=fun B E vP vE T h1 h2 h3 h4 h5=>Pa g c vP vE B E T h1 h2 h3 h4 h5
  unfold IG at al;unfold D8;unfold DW at am;obtain ⟨alg,m,i,k,key,d⟩:=c;simp only [Ac.cells] at *;have o:=jp (St.new (tq:=135) (qc:=#[.int .i64 (f:Int),.int .i64 (g:Int),.int .i64 alg,.int .i64 m,.int .i64 i,.int .i64 k,.string key,.int .i64 d,.slice none 0 0,.slice none 0 0]) (Z.out.trans bf) bg);clear bf bg Z ak ce;go_wp2_with fail;refine (bi _).mono ?_;rintro e T ⟨x,rfl,rfl,hx⟩;have HX:Hid (x=true↔1<=f/\f<=2):=⟨fun h=>by have:=hx.1 h;unfold Hd at this;omega,fun h=>hx.2 (by unfold Hd;omega)⟩;clear hx bi;have cl:w4.heap.size≠w2.heap.size:=o.out.2.2.2.2;have cj:=o.out.2.2.2.1;cases x
  .have hq:Hid (¬((1<=f/\f<=2)/\Ac.TOK ⟨alg,m,i,k,key,d⟩)):=fun h=>by have:=HX.out.2 h.1;cases this
   have R:=S.out.but (o.out.1) (by have:=u.out;simp;omega);have W:=jp (Ab.belTo Q.out (o.out.1) (fun j X=>by have:=u.out;simp at X;omega));have G:=R.cell 0 rfl;have s0:=R.free 0;have H:=R.cell 1 rfl;have s1:=R.free 1;have I:=R.cell 2 rfl;have s2:=R.free 2;have J:=R.cell 3 rfl;have s3:=R.free 3;have K:=R.cell 4 rfl;have s4:=R.free 4;have L:=R.cell 5 rfl;have s5:=R.free 5;have M:=R.cell 6 rfl;have s6:=R.free 6;have N:=R.cell 7 rfl;have s7:=R.free 7;have O:=R.cell 8 rfl;have s8:=R.free 8;have P:=R.cell 9 rfl;have s9:=R.free 9;have r:Hid (Bj t.data.toList=none):=by show _=_;rw [Y.out];exact if_neg hq.out
   clear R o;go_wp2;rw [r.out];exact bodyPost_ret (v:=CU) (by simp [CU,results,Tryz.results100,go_sem,G,H,I,J,K,L,M,N,O,P]) rfl ⟨W.out.sets10 (jH _) _ _ _ _ _ _ _ _ _ _,rfl⟩
  have cf:=o;have z:=o.out.box;have a0:=z.cell 0 rfl;have b0:=z.free 0;have a1:=z.cell 1 rfl;have b1:=z.free 1;have a2:=z.cell 2 rfl;have b2:=z.free 2;have a3:=z.cell 3 rfl;have b3:=z.free 3;have a4:=z.cell 4 rfl;have b4:=z.free 4;have a5:=z.cell 5 rfl;have b5:=z.free 5;have a6:=z.cell 6 rfl;have b6:=z.free 6;have a7:=z.cell 7 rfl;have b7:=z.free 7;have a8:=z.cell 8 rfl;have b8:=z.free 8;have a9:=z.cell 9 rfl;have b9:=z.free 9;clear z;go_wp2_with fail;refine (bj _).mono ?_;rintro e w5 ⟨x,rfl,bk,hx⟩;have an:Hid (x=true↔Ac.TOK ⟨alg,m,i,k,key,d⟩):=⟨hx.1,hx.2⟩;replace o:=jp (o.out.bel bk);clear hx bj bk cf a0 a1 a2 a3 a4 a5 a6 a7 a8 a9 b0 b1 b2 b3 b4 b5 b6 b7 b8 b9;cases x
  .have hq:Hid (¬((1<=f/\f<=2)/\Ac.TOK ⟨alg,m,i,k,key,d⟩)):=fun h=>by have:=an.out.2 h.2;cases this
   have R:=S.out.but (o.out.1) (by have:=u.out;simp;omega);have W:=jp (Ab.belTo Q.out (o.out.1) (fun j X=>by have:=u.out;simp at X;omega));have G:=R.cell 0 rfl;have s0:=R.free 0;have H:=R.cell 1 rfl;have s1:=R.free 1;have I:=R.cell 2 rfl;have s2:=R.free 2;have J:=R.cell 3 rfl;have s3:=R.free 3;have K:=R.cell 4 rfl;have s4:=R.free 4;have L:=R.cell 5 rfl;have s5:=R.free 5;have M:=R.cell 6 rfl;have s6:=R.free 6;have N:=R.cell 7 rfl;have s7:=R.free 7;have O:=R.cell 8 rfl;have s8:=R.free 8;have P:=R.cell 9 rfl;have s9:=R.free 9;have r:Hid (Bj t.data.toList=none):=by show _=_;rw [Y.out];exact if_neg hq.out
   clear R o;go_wp2;rw [r.out];exact bodyPost_ret (v:=CU) (by simp [CU,results,Tryz.results100,go_sem,G,H,I,J,K,L,M,N,O,P]) rfl ⟨W.out.sets10 (jH _) _ _ _ _ _ _ _ _ _ _,rfl⟩
  have bl:Hid (1<=f/\f<=2):=HX.out.1 js;have af:Hid (Ac.TOK ⟨alg,m,i,k,key,d⟩):=an.out.1 js;have bm:Hid (Bj t.data.toList=KO f g ⟨alg,m,i,k,key,d⟩ o2):=by show _=_;rw [Y.out];exact if_pos ⟨bl.out,af.out⟩
  have H6:=jp (O5 _ _ _ o.out.rs);have bn:=o.out.rs.lt;have cm:=o.out.box.lt;clear HX an Y;go_wp2_with fail;refine H6.out.mono ?_;rintro e w6 ⟨B,o3,v,x,rfl,bo,bp,bq,ab,ac⟩;replace o:=jp (o.out.read bo bp);have ao:=jp (bm.out.trans (QD bq));have ap:=jp ab;have s:=jp ac;clear bo bp bq ab ac H6 bm;cases x
  .have hq:Hid (¬AH B):=fun h=>by have:=ap.out.2 h;cases this
   have R:=S.out.but (o.out.1) (by have:=u.out;simp;omega);have W:=jp (Ab.belTo Q.out (o.out.1) (fun j X=>by have:=u.out;simp at X;omega));have G:=R.cell 0 rfl;have s0:=R.free 0;have H:=R.cell 1 rfl;have s1:=R.free 1;have I:=R.cell 2 rfl;have s2:=R.free 2;have J:=R.cell 3 rfl;have s3:=R.free 3;have K:=R.cell 4 rfl;have s4:=R.free 4;have L:=R.cell 5 rfl;have s5:=R.free 5;have M:=R.cell 6 rfl;have s6:=R.free 6;have N:=R.cell 7 rfl;have s7:=R.free 7;have O:=R.cell 8 rfl;have s8:=R.free 8;have P:=R.cell 9 rfl;have s9:=R.free 9;have r:Hid (Bj t.data.toList=none):=by show _=_;rw [ao.out];exact if_neg hq.out
   clear R o;go_wp2;rw [r.out];exact bodyPost_ret (v:=CU) (by simp [CU,results,Tryz.results100,go_sem,G,H,I,J,K,L,M,N,O,P]) rfl ⟨W.out.sets10 (jH _) _ _ _ _ _ _ _ _ _ _,rfl⟩
  have HG:Hid (AH B):=ap.out.1 js;replace s:Hid (AJ w5.heap.size w6 v B):=s.out js;have br:Hid (Bj t.data.toList=Ky f g ⟨alg,m,i,k,key,d⟩ B o3):=by show _=_;rw [ao.out];exact if_pos HG.out
  have h8:=HG.out.1.1;obtain ⟨aP,C,rfl⟩:=B8 s.out;have y8:=o.out.box.cell 8 rfl;have z8:=o.out.box.free 8;replace o:=jp (o.out.put 8 (.slice aP B.length C) (qc':=#[.int .i64 (f:Int),.int .i64 (g:Int),.int .i64 alg,.int .i64 m,.int .i64 i,.int .i64 k,.string key,.int .i64 d,.slice aP B.length C,.slice none 0 0]) rfl);replace s:=jp (ownsRow_setCell_below s.out (a:=⟨w4.heap.size,8,none⟩) jv (.slice aP B.length C));have H7:=jp (Cp _ _ 2 _ o.out.rs jo);clear ap ao;go_wp2_with fail;refine H7.out.mono ?_;rintro e w7 ⟨n,o4,rfl,aq,bs,cg,bt⟩;have hn:n<=65535:=by have:(2:Nat) ^ (8 * 2)=65536:=rfl;omega
  replace o:=jp (o.out.read aq bs);replace s:=jp (EP s.out aq bn);have bu:=jp (br.out.trans (Uh bt));have B7:=o.out.box;have a0:=B7.cell 0 rfl;have a2:=B7.cell 2 rfl;clear B7 aq bs cg bt H7 br y8 z8;have ag:=fun T=>al B.length T h8
  go_wp2_with fail;refine (ag _).mono ?_;rintro e w8 ⟨rfl,ar⟩;replace o:=jp (o.out.bel ar);replace s:=jp (CV s.out ar);have cn:=o.out.box.lt;have co:=o.out.rs.lt;have H9:=jp (NB _ _ (CO alg) (CX (f:Int) alg B.length) n _ o.out.rs (GJ _) (Hs _ _ _) hn);clear ar al ag a0 a2;have ch:Hid (∃x,x=CO alg):=⟨_,rfl⟩;have bv:Hid (∀(E:List EI) (o':Option (List Bool)),o4.bind (BY (FB (CO alg) (CX (f:Int) alg B.length)) n)=o'.map (Prod.mk E)->Bj t.data.toList=II f g ⟨alg,m,i,k,key,d⟩ B E o'):=fun E o' h=>bu.out.trans (UX h)
  clear bu ch;generalize CO alg=wp at *;generalize CX (f:Int) alg B.length=wo at *;go_wp2_with fail;refine H9.out.mono ?_;rintro e w9 ⟨E,o5,vE,rfl,au,bw,bx,av,cp,cq⟩;replace o:=jp (o.out.read au bw);replace s:=jp (EP s.out au bn);obtain ⟨aE,D,rfl⟩:=B8 av;have F:=jp av;have aw:=jp (bv.out E o5 bx);have y9:=o.out.box.cell 9 rfl;have z9:=o.out.box.free 9;replace o:=jp (o.out.put 9 (.slice aE E.length D) (qc':=#[.int .i64 (f:Int),.int .i64 (g:Int),.int .i64 alg,.int .i64 m,.int .i64 i,.int .i64 k,.string key,.int .i64 d,.slice aP B.length C,.slice aE E.length D]) rfl);replace s:=jp (ownsRow_setCell_below s.out (a:=⟨w4.heap.size,9,none⟩) jv (.slice aE E.length D));replace F:=jp (ownsRow_setCell_below F.out (a:=⟨w4.heap.size,9,none⟩) jv (.slice aE E.length D));have bz:=jp (I7 _ _ _ o.out.rs);clear au bw bx av H9 bv;go_wp2_with fail;refine bz.out.mono ?_;rintro e ci ⟨rfl,U⟩;replace o:=jp (o.out.bel U);replace s:=jp (CV s.out U);replace F:=jp (CV F.out U);clear U bz y9 z9;cases hx:BW o5
  .have hq:Hid (¬(BW o5=true/\DR g ⟨alg,m,i,k,key,d⟩ B E)):=fun h=>by rw [hx] at h;cases h.1
   have R:=S.out.but (o.out.1) (by have:=u.out;simp;omega);have W:=jp (Ab.belTo Q.out (o.out.1) (fun j X=>by have:=u.out;simp at X;omega));have G:=R.cell 0 rfl;have s0:=R.free 0;have H:=R.cell 1 rfl;have s1:=R.free 1;have I:=R.cell 2 rfl;have s2:=R.free 2;have J:=R.cell 3 rfl;have s3:=R.free 3;have K:=R.cell 4 rfl;have s4:=R.free 4;have L:=R.cell 5 rfl;have s5:=R.free 5;have M:=R.cell 6 rfl;have s6:=R.free 6;have N:=R.cell 7 rfl;have s7:=R.free 7;have O:=R.cell 8 rfl;have s8:=R.free 8;have P:=R.cell 9 rfl;have s9:=R.free 9;have r:Hid (Bj t.data.toList=none):=by show _=_;rw [aw.out];exact if_neg hq.out
   clear R o;go_wp2;rw [r.out];exact bodyPost_ret (v:=CU) (by simp [CU,results,Tryz.results100,go_sem,G,H,I,J,K,L,M,N,O,P]) rfl ⟨W.out.sets10 (jH _) _ _ _ _ _ _ _ _ _ _,rfl⟩
  have p:=o.out.box;have a0:=p.cell 0 rfl;have b0:=p.free 0;have a1:=p.cell 1 rfl;have b1:=p.free 1;have a2:=p.cell 2 rfl;have b2:=p.free 2;have a3:=p.cell 3 rfl;have b3:=p.free 3;have a4:=p.cell 4 rfl;have b4:=p.free 4;have a5:=p.cell 5 rfl;have b5:=p.free 5;have a6:=p.cell 6 rfl;have b6:=p.free 6;have a7:=p.cell 7 rfl;have b7:=p.free 7;have a8:=p.cell 8 rfl;have b8:=p.free 8;have a9:=p.cell 9 rfl;have b9:=p.free 9;clear p;have ca:=jp (am B E _ _ ci (AJ.pool s.out) (AS.ents F.out) HG.out.1 jo af.out);clear am;go_wp2_with fail;refine ca.out.mono ?_;rintro e cr ⟨x,rfl,V,ah⟩;replace o:=jp (o.out.bel V);replace s:=jp (CV s.out V);replace F:=jp (CV F.out V);have ai:=jp ah;clear V ah ca a0 a1 a2 a3 a4 a5 a6 a7 a8 a9 b0 b1 b2 b3 b4 b5 b6 b7 b8 b9;cases x
  .have hq:Hid (¬(BW o5=true/\DR g ⟨alg,m,i,k,key,d⟩ B E)):=fun h=>by have:=ai.out.2 h.2;cases this
   have R:=S.out.but (o.out.1) (by have:=u.out;simp;omega);have W:=jp (Ab.belTo Q.out (o.out.1) (fun j X=>by have:=u.out;simp at X;omega));have G:=R.cell 0 rfl;have s0:=R.free 0;have H:=R.cell 1 rfl;have s1:=R.free 1;have I:=R.cell 2 rfl;have s2:=R.free 2;have J:=R.cell 3 rfl;have s3:=R.free 3;have K:=R.cell 4 rfl;have s4:=R.free 4;have L:=R.cell 5 rfl;have s5:=R.free 5;have M:=R.cell 6 rfl;have s6:=R.free 6;have N:=R.cell 7 rfl;have s7:=R.free 7;have O:=R.cell 8 rfl;have s8:=R.free 8;have P:=R.cell 9 rfl;have s9:=R.free 9;have r:Hid (Bj t.data.toList=none):=by show _=_;rw [aw.out];exact if_neg hq.out
   clear R o;go_wp2;rw [r.out];exact bodyPost_ret (v:=CU) (by simp [CU,results,Tryz.results100,go_sem,G,H,I,J,K,L,M,N,O,P]) rfl ⟨W.out.sets10 (jH _) _ _ _ _ _ _ _ _ _ _,rfl⟩
  have r:Hid (Bj t.data.toList=some (f,g,⟨alg,m,i,k,key,d⟩,B,E)):=by show _=_;rw [aw.out];exact if_pos ⟨hx,ai.out.1 js⟩
  have R:=S.out.but o.out.1 (by have:=u.out;simp;omega);have W:=jp (Ab.belTo Q.out o.out.1 (fun j X=>by have:=u.out;simp at X;omega));have q:=o.out.box;have G:=R.cell 0 rfl;have s0:=R.free 0;have H:=R.cell 1 rfl;have s1:=R.free 1;have I:=R.cell 2 rfl;have s2:=R.free 2;have J:=R.cell 3 rfl;have s3:=R.free 3;have K:=R.cell 4 rfl;have s4:=R.free 4;have L:=R.cell 5 rfl;have s5:=R.free 5;have M:=R.cell 6 rfl;have s6:=R.free 6;have N:=R.cell 7 rfl;have s7:=R.free 7;have O:=R.cell 8 rfl;have s8:=R.free 8;have P:=R.cell 9 rfl;have s9:=R.free 9;have a0:=q.cell 0 rfl;have b0:=q.free 0;have a1:=q.cell 1 rfl;have b1:=q.free 1;have a2:=q.cell 2 rfl;have b2:=q.free 2;have a3:=q.cell 3 rfl;have b3:=q.free 3;have a4:=q.cell 4 rfl;have b4:=q.free 4;have a5:=q.cell 5 rfl;have b5:=q.free 5;have a6:=q.cell 6 rfl;have b6:=q.free 6;have a7:=q.cell 7 rfl;have b7:=q.free 7;have a8:=q.cell 8 rfl;have b8:=q.free 8;have a9:=q.cell 9 rfl;have b9:=q.free 9;clear R q o;go_wp2;rw [r.out];refine bodyPost_ret (v:= .tuple #[D8 f g ⟨alg,m,i,k,key,d⟩ (.slice aP B.length C) (.slice aE E.length D),.bool true]) (by simp [D8,results,Tryz.results100,go_sem,G,H,I,J,K,L,M,N,O,P]) rfl ⟨W.out.sets10 (jH _) _ _ _ _ _ _ _ _ _ _,_,_,rfl,?_,?_⟩
  .refine AJ.mono (b:=w5.heap.size) ?_ (by have:=u.out;omega)
   iterate 10 (refine ownsRow_setCell_below ?_ (by have:=u.out;simp only;omega) _)
   exact s.out
  .refine World.ownsRow.mono (base:=w8.heap.size) ?_ (by have:=u.out;omega)
   iterate 10 (refine ownsRow_setCell_below ?_ (by have:=u.out;simp only;omega) _)
   exact F.out
end Go.Proofs.YtpapdkhjdelfcaaGreat
