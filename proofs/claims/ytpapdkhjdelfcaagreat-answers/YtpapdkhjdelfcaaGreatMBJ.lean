import Derived.Test.YtpapdkhjdelfcaaGreatMAV
import Derived.Test.YtpapdkhjdelfcaaGreatMBI
namespace Go.Proofs.YtpapdkhjdelfcaaGreat
open Go.RowKit
set_option maxRecDepth 100000
set_option maxHeartbeats 4000000
theorem Zdx {l m:jy} (h:CQ l=some m):m.length<=l.length:=by
 unfold CQ at h;split at h
 .cases h
 .split at h
  .injection h with h
   rw [<-h,jk];omega
  .cases h
theorem ZfE {S:jy} (h:¬∃m,CQ S=some m):Bj S=none:=by
 unfold Bj;cases e:CQ S with
 |none=>rfl
 |some m=>exact absurd ⟨m,e⟩ h
def ZcO (w:jj) (S:jy) (e:Ending) (w':jj):Prop:=∃(v:ju) (f:Int) (b:Bool),e= .returned (.tuple #[v,.int .i64 f,.bool b])/\Aa w w'/\(b=false->Bj S=none)/\
 (b=true->∃(p:Nat) (c:Ac) (a:Int) (B:List BK) (E:List EN),v= .pointer (some ⟨p,0,none⟩)/\w.heap.size<=p/\CL w.heap.size w' p c a B E/\Dh c a B E/\(∀x∈E,Af x.2.1/\Af x.2.2)/\1<=a/\a<=1073741824/\c.formats=3/\E.length<=65535/\AH B/\(1<=f/\f<=2)/\Bj S=some (f.toNat,a.toNat,{c with formats:=0},B,E.map (Zai B)))
theorem ZcO.no {w w':jj} {S:jy} (h:Aa w w') (f:Int) (k:Bj S=none):ZcO w S (.returned (.tuple #[.pointer none,.int .i64 f,.bool false])) w':=⟨_,_,_,rfl,h,fun _=>k,fun h=>by cases h⟩
theorem Zc1 (s:jt) (w:jj) (hs:s.size<=1099511627776):
  Calls Tryz.prog 53 #[.string s] w (ZcO w s.data.toList):=by
 obtain ⟨S,hS⟩:∃S,S=s.data.toList:=⟨_,rfl⟩;rw [<-hS];go_enter Tryz.func53,Tryz.ntmps53;go_wp2_with fail;refine (ZbL s _ hs).mono ?_;rintro e w1 ⟨a,ok,rfl,ay,ai,az⟩;rw [<-hS] at ai az;have HS:Hid (s=Ai S):=by show _=_;rw [hS,Zbd]
 have c5:Hid (S.length=s.size):=by show _=_;rw [hS];rfl
 clear hS;cases ok
 .have W:Hid (Bj S=none):=ZfE fun h=>by have:=ai.2 h;cases this
  clear ai az;go_wp2;go_ret3;exact ZcO.no ay _ W.out
 .obtain ⟨m,hm⟩:=ai.1 rfl;have bl:=az m hm;have HO:Hid (CQ S=some a.data.toList):=by show _=_;rw [hm,bl,Zau]
  have ha:a.size<=s.size:=by
   have h1:=Zdx hm;have h2:a.size=m.length:=by rw [bl];simp [Ai,ByteArray.size]
   have h3:S.length=s.size:=c5.out;omega
  clear ai az hm bl;go_upto_region 5 with fail
  have b2:Aq (w1.alloc (.cells #[.string a,.bool false] 128)) w1.heap.size a false:=⟨js,js,js,js⟩;have b3:Aa w (w1.alloc (.cells #[.string a,.bool false] 128)):=ay.step_alloc _;have B:w.heap.size<=w1.heap.size:=ay.size;have b4:w1.heap.size<(w1.alloc (.cells #[.string a,.bool false] 128)).heap.size:=js
  generalize w1.heap.size=pt at *;generalize w1.alloc (.cells #[.string a,.bool false] 128)=W0 at *;clear ay;go_wp2_with fail;refine (Zc3 pt 2 a false _ ji ji (by unfold maxLen;omega) b2).mono ?_;rintro e W1 ⟨v1,s1,bm,rfl,bn,b5,h,rfl,g1, -, -, -,H⟩;have E1:Hid ((Zcp a false).bind (DU 2)=(Zcp s1 bm).map (Prod.mk h.data.toList)):=H;clear H;have b6:=bn.bel b3 B;go_wp2_with fail;refine (Zcv pt 1 s1 bm _ ji ji (by unfold maxLen;omega) b5).mono ?_;rintro e W2 ⟨v2,s2,bo,rfl,bp,a0,o,rfl,g2,f0,f1, -,H⟩;have z:Hid ((Zcp s1 bm).bind (A9 8)=(Zcp s2 bo).map (Prod.mk o.toNat)):=H;clear H;have d1:o<256:=by simpa using f1
  clear f1;have aj:=bp.bel b6 B;have c6:pt<W2.heap.size:=jN b4 (jX bn.size bp.size);clear bn bp b2 b5 b3 b6;go_upto_region 8 with fail
  have b7:BR (W2.alloc (.cells #[.int .i64 0,.int .i64 0,.int .i64 0,.int .i64 0,.string ⟨#[]⟩,.int .i64 0,.int .i64 0,.slice none 0 0,.slice none 0 0] 85)) W2.heap.size [.int .i64 0,.int .i64 0,.int .i64 0,.int .i64 0,.string ⟨#[]⟩,.int .i64 0,.int .i64 0,.slice none 0 0,.slice none 0 0]:=BR.alloc _ _ _;replace a0:=a0.later (Aa.step_alloc (jD _) (.cells #[.int .i64 0,.int .i64 0,.int .i64 0,.int .i64 0,.string ⟨#[]⟩,.int .i64 0,.int .i64 0,.slice none 0 0,.slice none 0 0] 85));have J:w.heap.size<=W2.heap.size:=aj.size;have a8:W2.heap.size<(W2.alloc (.cells #[.int .i64 0,.int .i64 0,.int .i64 0,.int .i64 0,.string ⟨#[]⟩,.int .i64 0,.int .i64 0,.slice none 0 0,.slice none 0 0] 85)).heap.size:=js
  replace aj:=aj.step_alloc (.cells #[.int .i64 0,.int .i64 0,.int .i64 0,.int .i64 0,.string ⟨#[]⟩,.int .i64 0,.int .i64 0,.slice none 0 0,.slice none 0 0] 85);have C:W2.heap.size≠pt:=jo
  generalize W2.heap.size=l at *;generalize W2.alloc (.cells #[.int .i64 0,.int .i64 0,.int .i64 0,.int .i64 0,.string ⟨#[]⟩,.int .i64 0,.int .i64 0,.slice none 0 0,.slice none 0 0] 85)=X0 at *;have M:=b7;have P:=a0;have Q:=aj;have y:=a8;clear b7 a0 aj a8;go_wp2_with fail;refine (Zcv pt 1 s2 bo _ ji ji (by unfold maxLen;omega) P).mono ?_;rintro e X1 ⟨v,r1,q1,rfl,u,D,alg,rfl,z1,b8,a9, -,H⟩;have E3:Hid ((Zcp s2 bo).bind (A9 8)=(Zcp r1 q1).map (Prod.mk alg.toNat)):=H;clear H;have dv:alg<256:=by simpa using a9
  clear a9;have r:=M.but u C;have F:=(r 0 _ rfl).1;have hf:=(r 0 _ rfl).2;have E:=u.bel Q B;have t:l<X1.heap.size:=jN y u.size;clear M P Q u y;have M:BR (X1.setCell ⟨l,0,none⟩ (.int .i64 alg)) l [.int .i64 alg,.int .i64 0,.int .i64 0,.int .i64 0,.string ⟨#[]⟩,.int .i64 0,.int .i64 0,.slice none 0 0,.slice none 0 0]:=r.set 0 _;have P:Aq (X1.setCell ⟨l,0,none⟩ (.int .i64 alg)) pt r1 q1:=D.other C;have Q:Aa w (X1.setCell ⟨l,0,none⟩ (.int .i64 alg)):=E.step_set (p:=⟨l,0,none⟩) J _;have y:l<(X1.setCell ⟨l,0,none⟩ (.int .i64 alg)).heap.size:=by simpa using t
  go_upto_region 9 with fail
  clear r D E t F hf;generalize X1.setCell ⟨l,0,none⟩ (.int .i64 alg)=Y1 at *;go_wp2_with fail;refine (Zcv pt 4 r1 q1 _ ji ji (by unfold maxLen;omega) P).mono ?_;rintro e X2 ⟨v,r2,q2,rfl,u,D,q,rfl,z2,b9,ba, -,H⟩;have E4:Hid ((Zcp r1 q1).bind (A9 32)=(Zcp r2 q2).map (Prod.mk q.toNat)):=H;clear H;have dw:q<4294967296:=by simpa using ba
  clear ba;have r:=M.but u C;have F:=(r 6 _ rfl).1;have hf:=(r 6 _ rfl).2;have E:=u.bel Q B;have t:l<X2.heap.size:=jN y u.size;clear M P Q u y;have M:BR (X2.setCell ⟨l,6,none⟩ (.int .i64 q)) l [.int .i64 alg,.int .i64 0,.int .i64 0,.int .i64 0,.string ⟨#[]⟩,.int .i64 0,.int .i64 q,.slice none 0 0,.slice none 0 0]:=r.set 6 _;have P:Aq (X2.setCell ⟨l,6,none⟩ (.int .i64 q)) pt r2 q2:=D.other C;have Q:Aa w (X2.setCell ⟨l,6,none⟩ (.int .i64 q)):=E.step_set (p:=⟨l,6,none⟩) J _;have y:l<(X2.setCell ⟨l,6,none⟩ (.int .i64 q)).heap.size:=by simpa using t
  go_upto_region 10 with fail
  clear r D E t F hf;generalize X2.setCell ⟨l,6,none⟩ (.int .i64 q)=Y2 at *;go_wp2_with fail;refine (Zcv pt 2 r2 q2 _ ji ji (by unfold maxLen;omega) P).mono ?_;rintro e X3 ⟨v,r3,q3,rfl,u,D,i,rfl,z3,a1,ac, -,H⟩;have E5:Hid ((Zcp r2 q2).bind (A9 16)=(Zcp r3 q3).map (Prod.mk i.toNat)):=H;clear H;have c4:i<65536:=by simpa using ac
  clear ac;have r:=M.but u C;have F:=(r 1 _ rfl).1;have hf:=(r 1 _ rfl).2;have E:=u.bel Q B;have t:l<X3.heap.size:=jN y u.size;clear M P Q u y;have M:BR (X3.setCell ⟨l,1,none⟩ (.int .i64 i)) l [.int .i64 alg,.int .i64 i,.int .i64 0,.int .i64 0,.string ⟨#[]⟩,.int .i64 0,.int .i64 q,.slice none 0 0,.slice none 0 0]:=r.set 1 _;have P:Aq (X3.setCell ⟨l,1,none⟩ (.int .i64 i)) pt r3 q3:=D.other C;have Q:Aa w (X3.setCell ⟨l,1,none⟩ (.int .i64 i)):=E.step_set (p:=⟨l,1,none⟩) J _;have y:l<(X3.setCell ⟨l,1,none⟩ (.int .i64 i)).heap.size:=by simpa using t
  go_upto_region 11 with fail
  clear r D E t F hf;generalize X3.setCell ⟨l,1,none⟩ (.int .i64 i)=Y3 at *;go_wp2_with fail;refine (Zcv pt 1 r3 q3 _ ji ji (by unfold maxLen;omega) P).mono ?_;rintro e X4 ⟨v,r4,q4,rfl,u,D,d,rfl,z4,ak,X, -,H⟩;have E6:Hid ((Zcp r3 q3).bind (A9 8)=(Zcp r4 q4).map (Prod.mk d.toNat)):=H;clear H;have ca:d<256:=by simpa using X
  clear X;have r:=M.but u C;have F:=(r 2 _ rfl).1;have hf:=(r 2 _ rfl).2;have E:=u.bel Q B;have t:l<X4.heap.size:=jN y u.size;clear M P Q u y;have M:BR (X4.setCell ⟨l,2,none⟩ (.int .i64 d)) l [.int .i64 alg,.int .i64 i,.int .i64 d,.int .i64 0,.string ⟨#[]⟩,.int .i64 0,.int .i64 q,.slice none 0 0,.slice none 0 0]:=r.set 2 _;have P:Aq (X4.setCell ⟨l,2,none⟩ (.int .i64 d)) pt r4 q4:=D.other C;have Q:Aa w (X4.setCell ⟨l,2,none⟩ (.int .i64 d)):=E.step_set (p:=⟨l,2,none⟩) J _;have y:l<(X4.setCell ⟨l,2,none⟩ (.int .i64 d)).heap.size:=by simpa using t
  go_upto_region 12 with fail
  clear r D E t F hf;generalize X4.setCell ⟨l,2,none⟩ (.int .i64 d)=Y4 at *;go_wp2_with fail;refine (Zcv pt 1 r4 q4 _ ji ji (by unfold maxLen;omega) P).mono ?_;rintro e X5 ⟨v,r5,q5,rfl,u,D,f,rfl,z5,al,Y, -,H⟩;have E7:Hid ((Zcp r4 q4).bind (A9 8)=(Zcp r5 q5).map (Prod.mk f.toNat)):=H;clear H;have cb:f<256:=by simpa using Y
  clear Y;have r:=M.but u C;have F:=(r 3 _ rfl).1;have hf:=(r 3 _ rfl).2;have E:=u.bel Q B;have t:l<X5.heap.size:=jN y u.size;clear M P Q u y;have M:BR (X5.setCell ⟨l,3,none⟩ (.int .i64 f)) l [.int .i64 alg,.int .i64 i,.int .i64 d,.int .i64 f,.string ⟨#[]⟩,.int .i64 0,.int .i64 q,.slice none 0 0,.slice none 0 0]:=r.set 3 _;have P:Aq (X5.setCell ⟨l,3,none⟩ (.int .i64 f)) pt r5 q5:=D.other C;have Q:Aa w (X5.setCell ⟨l,3,none⟩ (.int .i64 f)):=E.step_set (p:=⟨l,3,none⟩) J _;have y:l<(X5.setCell ⟨l,3,none⟩ (.int .i64 f)).heap.size:=by simpa using t
  go_upto_region 13 with fail
  clear r D E t F hf;generalize X5.setCell ⟨l,3,none⟩ (.int .i64 f)=Y5 at *;go_wp2_with fail;refine (Zc3 pt 16 r5 q5 _ ji ji (by unfold maxLen;omega) P).mono ?_;rintro e X6 ⟨v,r6,q6,rfl,u,D,key,rfl,z6,dx, -, -,H⟩;have E8:Hid ((Zcp r5 q5).bind (DU 16)=(Zcp r6 q6).map (Prod.mk key.data.toList)):=H;clear H;have r:=M.but u C;have F:=(r 4 _ rfl).1;have hf:=(r 4 _ rfl).2;have E:=u.bel Q B;have t:l<X6.heap.size:=jN y u.size;clear M P Q u y;have M:BR (X6.setCell ⟨l,4,none⟩ (.string key)) l [.int .i64 alg,.int .i64 i,.int .i64 d,.int .i64 f,.string key,.int .i64 0,.int .i64 q,.slice none 0 0,.slice none 0 0]:=r.set 4 _;have P:Aq (X6.setCell ⟨l,4,none⟩ (.string key)) pt r6 q6:=D.other C;have Q:Aa w (X6.setCell ⟨l,4,none⟩ (.string key)):=E.step_set (p:=⟨l,4,none⟩) J _;have y:l<(X6.setCell ⟨l,4,none⟩ (.string key)).heap.size:=by simpa using t
  go_upto_region 14 with fail
  clear r D E t F hf;generalize X6.setCell ⟨l,4,none⟩ (.string key)=Y6 at *;have c7:=(M 5 _ rfl).1;have c8:=(M 5 _ rfl).2;go_wp2_with fail;have cc:BR (Y6.setCell ⟨l,5,none⟩ (.int .i64 3)) l [.int .i64 alg,.int .i64 i,.int .i64 d,.int .i64 f,.string key,.int .i64 3,.int .i64 q,.slice none 0 0,.slice none 0 0]:=M.set 5 _;have bq:Aq (Y6.setCell ⟨l,5,none⟩ (.int .i64 3)) pt r6 q6:=P.other C;have br:Aa w (Y6.setCell ⟨l,5,none⟩ (.int .i64 3)):=Q.step_set (p:=⟨l,5,none⟩) J _;have cd:l<(Y6.setCell ⟨l,5,none⟩ (.int .i64 3)).heap.size:=by simpa using y
  have bb:pt<(Y6.setCell ⟨l,5,none⟩ (.int .i64 3)).heap.size:=World.block_lt_of_cell? _ _ bq.1;clear M P Q y c7 c8;generalize Y6.setCell ⟨l,5,none⟩ (.int .i64 3)=Z0 at *;refine (ZdL pt r6 q6 _ (by unfold maxLen;omega) bq bb).mono ?_;rintro e Z1 ⟨vB,L,c9,s7,bs,rfl,u,ce,d2,bt,d3,am,bc⟩;have a2:=jp bc;clear bc;have an:=cc.but u C;have cf:=u.bel br B;have bu:∀g,vB.ownBlock=some g->g≠pt:=fun g hg=>by have:=am g hg;omega
  have da:Hid (∀g,vB.ownBlock=some g->w.heap.size<=g):=fun g hg=>jX br.size (am g hg)
  have cg:l<Z1.heap.size:=jN cd u.size;have db:=(an 7 _ rfl).1;have dc:=(an 7 _ rfl).2;clear cc bq br u am cd bb;have ch:BR (Z1.setCell ⟨l,7,none⟩ vB) l [.int .i64 alg,.int .i64 i,.int .i64 d,.int .i64 f,.string key,.int .i64 3,.int .i64 q,vB,.slice none 0 0]:=an.set 7 _;have ci:Aq (Z1.setCell ⟨l,7,none⟩ vB) pt s7 bs:=ce.other C;have cj:Aa w (Z1.setCell ⟨l,7,none⟩ vB):=cf.step_set (p:=⟨l,7,none⟩) J _;have ck:l<(Z1.setCell ⟨l,7,none⟩ vB).heap.size:=by simpa using cg
  have bd:Am (Z1.setCell ⟨l,7,none⟩ vB) vB L:=bt.set_x (an 0 _ rfl).1
  obtain ⟨ae,R,dd⟩:∃ao cap,vB= .slice ao L.length cap:=by
   rcases bt.form with ⟨h1,h2⟩|⟨g,cap,h1,_⟩
   .subst h2;exact ⟨none,0,h1⟩
   .exact ⟨_,_,h1⟩
  subst dd;go_upto_region 17 with fail
  clear an ce cf cg db dc bt;generalize Z1.setCell ⟨l,7,none⟩ (.slice ae L.length R)=Z2 at *;go_wp2_with fail;refine (Zcv pt 2 s7 bs _ ji ji (by unfold maxLen;omega) ci).mono ?_;rintro e Z3 ⟨v,s8,cl,rfl,u,de,n,rfl,d4,n0,n1, -,H⟩;have E9:Hid ((Zcp s7 bs).bind (A9 16)=(Zcp s8 cl).map (Prod.mk n.toNat)):=H;have HR:=jp (Zfq HO.out E1.out z.out E3.out E4.out E5.out E6.out E7.out E8.out b8 a1 ak al a2.out H);clear H E1 z E3 E4 E5 E6 E7 E8 E9 HO;have n2:n<65536:=by simpa using n1
  clear n1;have bv:=ch.but u C;have aa:=u.bel cj B;have ap:=bd.but u bu;have cm:l<Z3.heap.size:=jN ck u.size;clear ch ci cj u bd ck;obtain ⟨be,bf,bg,bh⟩:=de;cases c9
  .have W:Hid (Bj S=none):=HR.out.2 fun h=>(by cases h.2.2.2)
   clear HR a2;go_wp2;go_ret3;exact ZcO.no aa _ W.out
  have af:Hid (AH L):=(a2.out.1 rfl).2.1;have cn:=af.out.1;clear a2;cases cl
  rotate_left
  .have W:Hid (Bj S=none):=by
    show _=_;by_cases F:h.data.toList=[67,72]/\(1<=o.toNat/\o.toNat<=2)/\Ac.TOK ⟨alg,i,d,f,key,0⟩/\true=true
    .rw [HR.out.1 F];rfl
    .exact HR.out.2 F
   clear HR
   go_wp2
   go_ret3
   exact ZcO.no aa _ W.out
  cases a3:(h.toList==[67,72])
  .have W : Hid (Bj S = none) := HR.out.2 fun F => (by
     have e : h.toList = [67, 72] := by rw [ByteArray.toList_eq]; exact F.1
     rw [e] at a3
     cases a3)
   clear HR
   go_wp2
   go_ret3
   exact ZcO.no aa _ W.out
  have co:Hid (h.data.toList=[67,72]):=by
   show _=_;rw [<-ByteArray.toList_eq];exact beq_iff_eq.1 a3
  by_cases dy:o<1
  .have W:Hid (Bj S=none):=HR.out.2 fun F=>(by have:=F.2.1.1;omega)
   clear HR;go_wp2;go_ret3;exact ZcO.no aa _ W.out
  by_cases dz:2<o
  .have W:Hid (Bj S=none):=HR.out.2 fun F=>(by have:=F.2.1.2;omega)
   clear HR;go_wp2;go_ret3;exact ZcO.no aa _ W.out
  have U:Hid ((Ac.TOK ⟨alg,i,d,f,key,0⟩->Bj S=Lp o.toNat q.toNat ⟨alg,i,d,f,key,0⟩ L n.toNat (Zcp s8 false))/\(¬Ac.TOK ⟨alg,i,d,f,key,0⟩->Bj S=none)):=⟨fun F=>HR.out.1 ⟨co.out,jo,F,rfl⟩,fun F=>HR.out.2 fun h=>F h.2.2.1⟩;clear HR co;have bi:Bz Z3 l ⟨alg,i,d,f,key,3⟩ q L []:=Bz.of_blk bv ap (Or.inl ⟨rfl,rfl,rfl⟩);go_wp2_with fail;refine (Jq l _ _ _ _ _ bi).mono ?_;rintro e Z4 ⟨pb,rfl,ag,cp⟩
  have cq:Hid (pb=Fq alg):=by
   show _=_;have k1:pb=true↔Fq alg=true:=cp.trans (ZcQ (c:=⟨alg,i,d,f,key,3⟩)).symm;cases pb <;>cases hh:Fq alg
   .rfl
   .rw [hh] at k1;exact absurd (k1.2 rfl) ji
   .rw [hh] at k1;exact absurd (k1.1 rfl) ji
   .rfl
  clear cp;have a4:=Aq.later ⟨be,bf,bg,bh⟩ ag;have bw:=bv.later ag;have Z:=ap.later ag;have ah:=aa.trans ag;have df:l<Z4.heap.size:=jN cm ag.size;have aq:pt<Z4.heap.size:=World.block_lt_of_cell? _ _ a4.1;clear be bf bg bh bv ap aa cm bi ag;obtain ⟨nn,rfl⟩:=jM n0;have a5:Hid (∀g,(Value.slice ae L.length R).ownBlock=some g->g≠pt):=bu;clear bu a3 n0;have n3:nn<=65535:=jo
  clear n2;have dg:Hid (Aa w Z4):=ah;go_upto_if 105 with fail
  go_cut [14,6] (fun dh v6 wc=>∃(z:List EN) (N:Bool),v6= .bool N/\Dz w.heap.size wc dh z/\z.length<=65535/\(∀x∈z,DZ L x)/\BR wc l [.int .i64 alg,.int .i64 i,.int .i64 d,.int .i64 f,.string key,.int .i64 3,.int .i64 q,.slice ae L.length R,.slice none 0 0]/\Am wc (.slice ae L.length R) L/\Aa w wc/\Hid (ZcY o.toNat q.toNat ⟨alg,i,d,f,key,0⟩ L nn (Zcp s8 false) z N))
  case first=>
   by_cases cr:o=1
   .subst cr;go_wp2_with fail;refine (ZdG pt nn pb _ L s8 false _ (by unfold maxLen;omega) a4 aq n3 Z af.out a5.out).mono ?_;rintro e Z5 ⟨vE,z,N,s9,di,rfl,u,cs,dj,O,ad,A,K⟩;have I:Hid (ZcY (1:Int).toNat q.toNat ⟨alg,i,d,f,key,0⟩ L nn (Zcp s8 false) z N):=K.res cq.out;clear K;go_wp2;go_meet
    case rel=>exact ⟨z,N,rfl,⟨O.1,fun g hg=>jX ah.size (O.2 g hg)⟩,jo,A,bw.but u C,Z.but u a5.out,u.bel ah B,I⟩
   .have d0:(o==1)=false:=by simpa using cr
    go_wp2_with fail;refine (Zen pt nn pb _ L s8 false _ jo a4 aq n3 Z a5.out af.out).mono ?_;rintro e Z5 ⟨vE,z,N,s9,di,rfl,u,cs,dj,O,ad,A,K⟩
    have I:Hid (ZcY o.toNat q.toNat ⟨alg,i,d,f,key,0⟩ L nn (Zcp s8 false) z N):=by
     show ZcY _ _ _ _ _ _ _ _;rw [show o.toNat=2 by omega];exact K.res cq.out
    clear K;go_wp2;go_meet
    case rel=>exact ⟨z,N,rfl,⟨O.1,fun g hg=>jX ah.size (O.2 g hg)⟩,jo,A,bw.but u C,Z.but u a5.out,u.bel ah B,I⟩
  case rest=>
   obtain ⟨z,N,rfl,O,ad,A,T,ar,bj,I⟩:=hcut;clear a4 bw Z ah df aq dg
   obtain ⟨V,G,dk⟩:∃ao cap,u14= .slice ao z.length cap:=by
    obtain ⟨ao,cap,hv,_⟩:=O.1.off;exact ⟨ao,cap,hv⟩
   subst dk;have dl:=(T 8 _ rfl).1;have dm:=(T 8 _ rfl).2;have au:BR (wc.setCell ⟨l,8,none⟩ (.slice V z.length G)) l [.int .i64 alg,.int .i64 i,.int .i64 d,.int .i64 f,.string key,.int .i64 3,.int .i64 q,.slice ae L.length R,.slice V z.length G]:=T.set 8 _;have bk:Aa w (wc.setCell ⟨l,8,none⟩ (.slice V z.length G)):=bj.step_set (p:=⟨l,8,none⟩) J _;have ab:Am (wc.setCell ⟨l,8,none⟩ (.slice V z.length G)) (.slice ae L.length R) L:=ar.set_x (T 0 _ rfl).1;have av:Cl (wc.setCell ⟨l,8,none⟩ (.slice V z.length G)) (.slice V z.length G) z:=O.1.set_x (T 0 _ rfl).1;have ct:Bz (wc.setCell ⟨l,8,none⟩ (.slice V z.length G)) l ⟨alg,i,d,f,key,3⟩ q L z:=Bz.of_blk au ab av;have cu:Hid (CL w.heap.size (wc.setCell ⟨l,8,none⟩ (.slice V z.length G)) l ⟨alg,i,d,f,key,3⟩ q L z):=CL.of_blk au ab av J da.out O.2;go_upto_region 26 with fail
   clear T ar bj O dl dm au ab av;generalize wc.setCell ⟨l,8,none⟩ (.slice V z.length G)=V0 at *;cases N
   .have W:Hid (Bj S=none):=by
     show _=_;by_cases F:Ac.TOK ⟨alg,i,d,f,key,0⟩
     .rw [U.out.1 F];exact I.out.2 rfl
     .exact U.out.2 F
    clear U I
    go_wp2
    go_ret3
    exact ZcO.no bk _ W.out
   .go_wp2_with fail;have cv:Ac.Fit ⟨alg,i,d,f,key,3⟩:=⟨⟨jv,jv⟩,⟨jv,jv⟩,⟨jv,jv⟩,⟨jv,jv⟩,⟨jv,jv⟩,by simp only;unfold maxLen;omega⟩;refine (Zdv l _ _ _ _ _ ct cv cn jo (fun x hx=>(A x hx).2)).mono ?_;rintro e V1 ⟨dn,rfl,bx,a6⟩;have aw:=bk.trans bx;have cw:Hid (∀x∈z,∃b∈L,b.1=x.1):=fun x hx=>(A x hx).1
    have cx:Hid (∀x∈z,Af x.2.1/\Af x.2.2):=fun x hx=>(A x hx).2
    cases dn
    .have W:Hid (Bj S=none):=by
      show _=_;have dp:¬Zcw ⟨alg,i,d,f,key,3⟩ q L z:=fun h=>by have:=a6.2 h;cases this
      by_cases F:Ac.TOK ⟨alg,i,d,f,key,0⟩
      .obtain ⟨⟨o9,ho⟩, -⟩:=I.out.1 rfl;exact ZfC rfl ((U.out.1 F).trans ho) af.out cw.out cx.out F b9 dp
      .exact U.out.2 F
     clear U I a6
     go_wp2
     go_ret3
     exact ZcO.no aw _ W.out
    .have ax:=a6.1 rfl;have dq:=jp ax;have bz:=ax.1;obtain ⟨dr,ds⟩:=ax.2.1;have cy:¬EV ⟨alg,i,d,f,key,3⟩->z=[]\/(z.length:Int)=i:=fun hp=>(ax.2.2.2.1 hp).elim (fun k=>Or.inr k.2) (fun k=>Or.inl k.2)
     have dt:Hid (Ac.TOK ⟨alg,i,d,f,key,0⟩):=((Ac.ok_iff _).1 bz).1;clear a6 ax;have cz:Dh ⟨alg,i,d,f,key,3⟩ q L z:=⟨bz,⟨jo,jo⟩,cn,jo,fun x hx=>(A x hx).1,cy⟩;have c0:∀x∈z,Af x.2.1/\Af x.2.2:=fun x hx=>(A x hx).2
     have c1:Hid (Dh ⟨alg,i,d,f,key,3⟩ q L z):=cz;clear bz cy cz;have c2:=fun wx (b:Aa V1 wx)=>Zbg l _ q L z o wx ((ct.later bx).later b) c1.out ⟨jo,jo⟩ c0 ⟨jo,jo⟩ jo
     go_wp2_with fail;refine (c2 _ (jD _)).mono ?_;rintro e V2 ⟨b,rfl,b0,c3⟩;have a7:Hid (b=Ai (BJ o.toNat q.toNat ⟨alg,i,d,f,key,3⟩ L (z.map (Zai L)))):=c3;clear c3 c2;cases b1:(b.toList==s.toList)
     .have W:Hid (Bj S=none):=by
       show _=_;obtain ⟨⟨o9,ho⟩, -⟩:=I.out.1 rfl;refine Zeo ((U.out.1 dt.out).trans ho) fun e=>?_
       have:b=s:=by rw [a7.out,HS.out,<-e];rfl
       rw [FE.2 this] at b1;cases b1
      clear U I a7
      go_wp2
      go_ret3
      exact ⟨_,_,_,rfl,aw.trans b0,fun _=>W.out,fun h=>by cases h⟩
     .have HY:Hid (Bj S=some (o.toNat,q.toNat,⟨alg,i,d,f,key,0⟩,L,z.map (Zai L))):=by
       show _=_;obtain ⟨-,du⟩:=I.out.1 rfl
       have e:BJ o.toNat q.toNat ⟨alg,i,d,f,key,3⟩ L (z.map (Zai L))=S:=by
        have h1:=(a7.out).symm.trans ((FE.1 b1).trans HS.out);have h2:=congrArg (fun x:ByteArray=>x.data.toList) h1;exact h2
       rw [<-e];exact ZfK rfl ⟨jo,jo⟩ af.out cw.out cx.out ad du dq.out
      clear U I a7
      go_wp2
      go_ret3
      exact ⟨_,_,_,rfl,aw.trans b0,fun h=>(by cases h),fun _=>⟨l,_,q,L,z,rfl,J,(cu.out.later bx).later b0,c1.out,c0,dr,ds,rfl,ad,af.out,⟨jo,jo⟩,HY.out⟩⟩
def Zcq:List ByteArray->Nat->List TP
 |[],_=>[]
 |s::r,k=>if s.size=0 then Zcq r (k+1) else (k,s.data.toList)::Zcq r (k+1)
def ZcH:List ByteArray->Nat->Nat
 |[],k=>k
 |s::r,k=>if s.size=0 then k else ZcH r (k+1)
theorem Zc0:∀(G:List ByteArray) (k:Nat),∀x∈Zcq G k,k<=x.1/\x.1<k+G.length
 |[],k,x,h=>by cases h
 |s::r,k,x,h=>by
  rw [Zcq] at h;simp only [List.length_cons];split at h
  .have:=Zc0 r (k+1) x h;omega
  .rcases ja.1 h with e|h
   .rw [e];simp only;omega
   .have:=Zc0 r (k+1) x h;omega
theorem Zdh:∀(A B:List ByteArray) (k:Nat),Zcq (A++B) k=Zcq A k++Zcq B (k+A.length)
 |[],B,k=>rfl
 |s::r,B,k=>by
  rw [List.cons_append,Zcq,Zcq,Zdh r B (k+1),List.length_cons,show k+1+r.length=k+(r.length+1) by omega];split <;>rfl
theorem ZdM:∀(G:List ByteArray) (k:Nat),GB (Zcq G k) k=ZcH G k
 |[],k=>rfl
 |s::r,k=>by
  rw [Zcq,ZcH];split
  .cases h:Zcq r (k+1) with
   |nil=>rfl
   |cons x T=>
    have:=Zc0 r (k+1) x (by rw [h];exact List.mem_cons_self);rw [GB,if_neg jo]
  .rw [GB,if_pos rfl,ZdM r (k+1)]
theorem Zdl:∀(G:List ByteArray) (k:Nat),Cg (Zcq G k)=G.flatMap (fun s=>s.data.toList)
 |[],k=>rfl
 |s::r,k=>by
  rw [Zcq,List.flatMap_cons,<-Zdl r (k+1)];split
  .rename_i h;have e:s.data.toList=[]:=jS (show s.data.toList.length=0 from h);rw [e];rfl
  .rfl
theorem ZdF:∀(G:List ByteArray) (k:Nat),(Zcq G k).length<=G.length
 |[],k=>jH _
 |s::r,k=>by
  have:=ZdF r (k+1);rw [Zcq];split <;>simp only [List.length_cons] <;>omega
theorem Zda:∀(G:List ByteArray) (k:Nat),((Zcq G k).length=G.length↔∀s∈G,s.size≠0)
 |[],k=>⟨fun _ s a=>(by cases a),fun _=>rfl⟩
 |s::r,k=>by
  have c:=ZdF r (k+1);have b:=Zda r (k+1);rw [Zcq];split
  .rename_i h;exact ⟨fun e=>by simp only [List.length_cons] at e;omega,fun e=>absurd h (e s List.mem_cons_self)⟩
  .rename_i h;simp only [List.length_cons,Nat.add_right_cancel_iff];rw [b]
   exact ⟨fun e x hx => by
     rcases ja.1 hx with hx | hx
     . rw [hx]; exact h
     . exact e x hx, fun e x hx => e x (jW _ hx)⟩
theorem ZdQ:∀(n k:Nat),Zcq (List.replicate n ByteArray.empty) k=[]
 |0,k=>rfl
 |n+1,k=>by rw [List.replicate_succ,Zcq,if_pos (show ByteArray.empty.size=0 from rfl),ZdQ n (k+1)]
theorem ZdZ {P Q:List TP} {n:Nat} (b:∀x∈P,x.1<n) (c:∀x∈Q,n<=x.1):∀m,m<=Q.length->CA (P++Q) n (P.length+m)=P.length
 |0,_=>by
  rw [Nat.add_zero];cases h:P.length with
  |zero=>rfl
  |succ k=>
   have a:k<P.length:=jo
   have:=b P[k] (jJ a);rw [CA,List.getElem?_append_left a,jG a];simp only;rw [if_neg jo]
 |m+1,hm=>by
  have a:m<Q.length:=jo
  have:=c Q[m] (jJ a);rw [<-Nat.add_assoc,CA,List.getElem?_append_right jo,show P.length+m - P.length=m by omega,jG a];simp only;rw [if_pos jo,ZdZ b c m jo]
theorem Zd9 {G:List ByteArray} {n:Nat} (a:n<G.length) {b:jt} (g:b.size≠0):Dm (Zcq G 0) (n,b.data.toList)=Zcq (G.set n b) 0:=by
 have c:(G.take n).length=n:=by rw [jk];omega
 have d:Zcq G 0=Zcq (G.take n) 0++Zcq (G[n]::G.drop (n+1)) n:=by
  have:=Zdh (G.take n) (G[n]::G.drop (n+1)) 0;rw [c,Nat.zero_add,<-List.drop_eq_getElem_cons a,List.take_append_drop] at this;rw [this,List.drop_eq_getElem_cons a]
 have i:Zcq (G.set n b) 0=Zcq (G.take n) 0++(n,b.data.toList)::Zcq (G.drop (n+1)) (n+1):=by
  rw [List.set_eq_take_append_cons_drop,if_pos a,Zdh,c,Nat.zero_add,Zcq,if_neg g]
 have k:∀x∈Zcq (G.take n) 0,x.1<n:=fun x hx=>by
  have:=Zc0 _ _ x hx;omega
 have l:∀x∈Zcq (G[n]::G.drop (n+1)) n,n<=x.1:=fun x hx=>(Zc0 _ _ x hx).1
 have m:∀x∈Zcq (G.drop (n+1)) (n+1),n+1<=x.1:=fun x hx=>(Zc0 _ _ x hx).1
 have f:=ZdZ k l _ (jH _);rw [<-jO,<-d] at f;unfold Dm;simp only;rw [f,d,i,List.getElem?_append_right (jH _),Nat.sub_self,List.set_append_right _ _ (jH _),Nat.sub_self,List.take_left',List.drop_left']
 .rw [Zcq];split
  .cases h:Zcq (G.drop (n+1)) (n+1) with
   |nil=>rw [if_neg js]
   |cons x T=>
    have:=m x (by rw [h];exact List.mem_cons_self);rw [if_neg];simp only [List.getElem?_cons_zero,Option.map_some,Option.some.injEq];omega
  .rw [if_pos js];rfl
 .rfl
 .rfl
def ZcJ (b:jy):Option Bl:=if b.take 1=[65] then (if b.length=2/\(Zab ((b.drop 1).take 1)=0\/Zab ((b.drop 1).take 1)=2) then some (Zab ((b.drop 1).take 1),0,0,0,0,[]) else if (12<=b.length/\b.length<=59)/\Zab ((b.drop 1).take 1)=1 then some (1,Zab ((b.drop 2).take 4),Zab ((b.drop 6).take 1),Zab ((b.drop 7).take 2),Zab ((b.drop 9).take 2),b.drop 11) else none) else none
theorem Zem {N k:Nat} {b t:jy} {y:(List UInt8×Bl)×List Bool} (h:(Bo (A9 32) fun g=>Bo (A9 8) fun f=>Bo (A9 16) fun c=>Bo (A9 16) fun n=>Bo (DU N) fun s=>DT (t,(k,g,f,c,n,s))) (Az b)=some y):9<=b.length:=by
 obtain ⟨o,p,a,h⟩:=Da h;obtain ⟨q,r,d,h⟩:=Da h;obtain ⟨u,v,i,h⟩:=Da h;obtain ⟨w,x,l,h⟩:=Da h;have m:=(ZaC a);have z:=(ZaC d);have A:=(ZaC i);have B:=(ZaC l);rw [Bk] at m;omega
theorem Zei {l b:jy} (h:CQ l=some b):DY l=ZcJ b:=by
 unfold DY;rw [h,Option.bind_some];unfold Hw ZcJ;by_cases B:b.length<2
 .have:(Bo (DU 1) fun t=>Bo (A9 8) fun k=>if k=1 then Bo (A9 32) fun g=>Bo (A9 8) fun f=>Bo (A9 16) fun c=>Bo (A9 16) fun n=>Bo (DU (b.length - 11)) fun s=>DT (t,1,g,f,c,n,s) else DT (t,k,0,0,0,0,[])) (Az b)=none:=by
   cases d:(Bo (DU 1) fun t=>Bo (A9 8) fun k=>if k=1 then Bo (A9 32) fun g=>Bo (A9 8) fun f=>Bo (A9 16) fun c=>Bo (A9 16) fun n=>Bo (DU (b.length - 11)) fun s=>DT (t,1,g,f,c,n,s) else DT (t,k,0,0,0,0,[])) (Az b) with
   |none=>rfl
   |some y=>
    obtain ⟨C,D,i,d⟩:=Da d;obtain ⟨E,F,r,d⟩:=Da d;have u:=Zbk i;have G:=ZaC r;rw [Bk] at u;omega
  rw [this,if_neg (show ¬(b.length=2/\_) from fun k=>by omega),if_neg (show ¬((12<=b.length/\_)/\_) from fun k=>by omega)]
  split <;>rfl
 rw [Zaw (Zb7 (k:=1) jo),Zaw (ZaA (k:=1) (l:=b.drop 1) (by rw [jh];omega)),List.drop_drop];generalize Zab ((b.drop 1).take 1)=m;by_cases i:m=1
 .subst i;rw [if_pos rfl];by_cases v:11<=b.length
  .rw [Zaw (ZaA (k:=4) (l:=b.drop (1+1)) (by rw [jh];omega)),List.drop_drop];rw [Zaw (ZaA (k:=1) (l:=b.drop (1+1+4)) (by rw [jh];omega)),List.drop_drop];rw [Zaw (ZaA (k:=2) (l:=b.drop (1+1+4+1)) (by rw [jh];omega)),List.drop_drop];rw [Zaw (ZaA (k:=2) (l:=b.drop (1+1+4+1+2)) (by rw [jh];omega)),List.drop_drop];rw [Zaw (Zb7 (k:=b.length - 11) (l:=b.drop (1+1+4+1+2+2)) (by rw [jh];omega)),List.drop_drop];have w:(b.drop (1+1+4+1+2+2)).take (b.length - 11)=b.drop 11:=jR (by rw [jh];omega);have x:b.drop (1+1+4+1+2+2+(b.length - 11))=[]:=List.drop_eq_nil_of_le jo;rw [w,x];show (haveI:=Zgd (1,Zab ((b.drop 2).take 4),Zab ((b.drop 6).take 1),Zab ((b.drop 7).take 2),Zab ((b.drop 9).take 2),b.drop 11);if BW (some (Az []))=true/\b.take 1=[65]/\EO (1,Zab ((b.drop 2).take 4),Zab ((b.drop 6).take 1),Zab ((b.drop 7).take 2),Zab ((b.drop 9).take 2),b.drop 11) then _ else _)=_;rw [Zca];by_cases a:b.take 1=[65]
   .by_cases p:12<=b.length/\b.length<=59
    .rw [if_pos ⟨rfl,a,Or.inr (Or.inr ⟨rfl,by simp only [jh];omega,by simp only [jh];omega⟩)⟩,if_pos a,if_neg jo,if_pos ⟨p,rfl⟩]
    .rw [if_neg,if_pos a,if_neg jo,if_neg (fun k=>p k.1)];rintro ⟨-, -,k⟩;rcases k with k|k|k
     .simp at k
     .simp at k
     .simp only [jh] at k;omega
   .rw [if_neg (fun k=>a k.2.1),if_neg a]
  .have:(Bo (A9 32) fun g=>Bo (A9 8) fun f=>Bo (A9 16) fun c=>Bo (A9 16) fun n=>Bo (DU (b.length - 11)) fun s=>DT (b.take 1,1,g,f,c,n,s)) (Az (b.drop (1+1)))=none:=by
    cases d:(Bo (A9 32) fun g=>Bo (A9 8) fun f=>Bo (A9 16) fun c=>Bo (A9 16) fun n=>Bo (DU (b.length - 11)) fun s=>DT (b.take 1,1,g,f,c,n,s)) (Az (b.drop (1+1))) with
    |none=>rfl
    |some y=>
     have:=Zem (N:=b.length - 11) (k:=1) (t:=b.take 1) d;rw [jh] at this;omega
   rw [this,if_neg (show ¬(b.length=2/\_) from fun k=>by omega),if_neg (show ¬((12<=b.length/\_)/\_) from fun k=>by omega)]
   split <;>rfl
 .rw [if_neg i];show (haveI:=Zgd (m,0,0,0,0,[]);if BW (some (Az (b.drop (1+1))))=true/\b.take 1=[65]/\EO (m,0,0,0,0,[]) then _ else _)=_;rw [Zca];have q:b.drop (1+1)=[]↔b.length=2:=⟨fun e=>by have:=congrArg List.length e;rw [jh,List.length_nil] at this;omega,fun e=>List.drop_eq_nil_of_le jo⟩;by_cases a:b.take 1=[65]
  .rw [if_pos a];by_cases o:b.length=2/\(m=0\/m=2)
   .rw [if_pos ⟨jL (q.2 o.1),a,o.2.imp id (fun e=>Or.inl e)⟩,if_pos o]
   .rw [if_neg,if_neg o,if_neg (fun k=>i k.2)];rintro ⟨z, -,A⟩;refine o ⟨q.1 (of_decide_eq_true z),?_⟩;rcases A with k|k|k
    .exact Or.inl k
    .exact Or.inr k
    .exact absurd k.1 i
  .rw [if_neg (fun k=>a k.2.1),if_neg a]
def Zc9 (p:AF):Option HX->Prop
 |none=>p.g=0
 |some (c,gen,B,E)=>p.g≠0/\gen=(p.g:Int)/\p.c={c with formats:=0}/\p.B=B/\p.E=E.map (Zai B)
theorem Zc9.gen {p:AF} {hx:Option HX} (h:Zc9 p hx):Zcs hx=(p.g:Int):=by
 rcases hx with _|⟨c,a,B,E⟩
 .have:p.g=0:=h;rw [this];rfl
 .exact h.2.1
structure Zcr (speaks:Int) (hx:Option HX) (gen format:Int) (G:List ByteArray) (no:Bool) (p:AF):Prop where
 sp:speaks=(p.fm:Int)
 no:no=p.nf
 has:Zc9 p hx
 cg:gen=(p.cg:Int)
 T:p.T=Zcq G 0
 cp:p.cp=G.length
 z:p.cg=0->G=[]/\p.cf=0
 cf:p.cg≠0->format=(p.cf:Int)
theorem Zcr.new (f:Nat):Zcr (f:Int) none 0 0 [] false (DX f):=⟨rfl,rfl,rfl,rfl,rfl,rfl,fun _=>⟨rfl,rfl⟩,fun h=>absurd rfl h⟩
theorem ZeN {p:AF} {l:jy} (h:DY l=none):Ju p l=p:=by
 unfold Ju;rw [h]
theorem Zc2 {p:AF} {l:jy} {a:Bl} (h:DY l=some a):Ju p l=DO p a:=by
 unfold Ju;rw [h]
theorem Zcr.told {d b c:Int} {hx:Option HX} {G:List ByteArray} {f:Bool} {p:AF} (h:Zcr d hx b c G f p) {a:Bl} (g:a.1≠1):Zcr d hx b c G (a.1==2) (DO p a):=by
 unfold DO;rw [if_pos g];exact ⟨h.sp,rfl,h.has,h.cg,h.T,h.cp,h.z,h.cf⟩
def ZcI (b c:Int) (G:List ByteArray) (d g i:Nat) (a:Int) (f:List ByteArray):Prop:=(b<(d:Int)/\a=(g:Int)/\f=List.replicate i ByteArray.empty)\/(b=(d:Int)/\a=c/\f=G)
theorem Zcr.com {m c d b:Int} {hx:Option HX} {G i:List ByteArray} {n:Bool} {p:AF} {a f g kk:Nat} {pc:jy} (h:Zcr m hx c d G n p) (s:0<a) (o:ZcI c d G a f g b i):
  (AU p.cg p.cf p.cp p.T (1,a,f,g,kk,pc)).1=a/\((AU p.cg p.cf p.cp p.T (1,a,f,g,kk,pc)).2.1:Int)=b/\(AU p.cg p.cf p.cp p.T (1,a,f,g,kk,pc)).2.2.1=i.length/\(AU p.cg p.cf p.cp p.T (1,a,f,g,kk,pc)).2.2.2=Zcq i 0:=by
 unfold AU;have q:=h.cg;rcases o with ⟨r,k,l⟩|⟨r,k,l⟩
 .rw [if_pos (show p.cg<a by omega),l,ZdQ,List.length_replicate];exact ⟨rfl,k.symm,rfl,rfl⟩
 .rw [if_neg (show ¬p.cg<a by omega),l];exact ⟨by show p.cg=a;omega,by rw [k];exact (h.cf jo).symm,h.cp,h.T⟩
theorem Zcr.use {q b c a:Int} {hx:Option HX} {G n:List ByteArray} {r:Bool} {p:AF} {d f i kk:Nat} {pc:jy} (h:Zcr q hx b c G r p) (s:0<d) (t:ZcI b c G d f i a n):
  Ea p.fm p.g p.cg p.cf p.cp p.T (1,d,f,i,kk,pc)↔(Zcs hx<(d:Int)/\b<=(d:Int)/\kk<i/\f &&& p.fm≠0)/\(f:Int)=a/\i=n.length:=by
 obtain ⟨y,u,v,z⟩:=h.com (kk:=kk) (pc:=pc) s t;unfold Ea;rw [v,<-u,h.has.gen,h.cg];unfold IQ;simp only [Bool.and_eq_true,decide_eq_true_eq,Bool.not_eq_true',jI];constructor
 .rintro ⟨⟨⟨⟨w,x⟩,k⟩,l⟩,o,m⟩;exact ⟨⟨jo,jo,k,l⟩,congrArg Int.ofNat o,m⟩
 .rintro ⟨⟨w,x,k,l⟩,o,m⟩;exact ⟨⟨⟨⟨jo,jo⟩,k⟩,l⟩,jo,m⟩
theorem Zff {fm g cg cf f:Nat} {T:List TP} {b c d kk:Nat} {pc:jy} (h:¬(g<b/\cg<=b/\kk<d/\c &&& fm≠0)):¬Ea fm g cg cf f T (1,b,c,d,kk,pc):=fun k=>by
 have a:=k.1;unfold IQ at a;simp only [Bool.and_eq_true,decide_eq_true_eq,Bool.not_eq_true',jI] at a;exact h ⟨a.1.1.1,a.1.1.2,a.1.2,a.2⟩
theorem Zcr.stay {g a b:Int} {hx:Option HX} {G:List ByteArray} {i:Bool} {p:AF} {c d f kk:Nat} {pc:jy} (h:Zcr g hx a b G i p) (k:¬(Zcs hx<(c:Int)/\a<=(c:Int)/\kk<f/\d &&& p.fm≠0)):DO p (1,c,d,f,kk,pc)=p:=
 SY rfl (Zff (by rw [h.has.gen,h.cg] at k;omega))
theorem Zcr.newT {k a b c:Int} {hx:Option HX} {G d:List ByteArray} {l:Bool} {p:AF} {f g i kk:Nat} {pc:jt} (h:Zcr k hx a b G l p) (m:0<f) (n:ZcI a b G f g i c d) (o:kk<d.length) (q:pc.size≠0):
  newT p.cg p.cf p.cp p.T (1,f,g,i,kk,pc.data.toList)=Zcq (d.set kk pc) 0:=by
 obtain ⟨s,t,u,r⟩:=h.com (kk:=kk) (pc:=pc.data.toList) m n;unfold Go.Proofs.YtpapdkhjdelfcaaGreat.newT;rw [r];exact Zd9 o q
theorem Zcr.lay {m c d a:Int} {hx:Option HX} {G i:List ByteArray} {q:Bool} {p:AF} {b f g kk:Nat} {pc:jt} (h:Zcr m hx c d G q p) (r:Zcs hx<(b:Int)/\c<=(b:Int)/\kk<g/\f &&& p.fm≠0) (k:0<b) (l:ZcI c d G b f g a i) (t:(f:Int)=a) (u:g=i.length) (v:pc.size≠0) (w:¬∀s∈i.set kk pc,s.size≠0):
  Zcr m hx (b:Int) a (i.set kk pc) false (DO p (1,b,f,g,kk,pc.data.toList)):=by
 have n:=h.newT (kk:=kk) (pc:=pc) k l jo v;obtain ⟨x,y,o,z⟩:=h.com (kk:=kk) (pc:=pc.data.toList) k l;rw [Te rfl ((h.use k l).2 ⟨r,t,u⟩) (by rw [n,o];intro e;exact w ((Zda _ 0).1 (by rw [e,List.length_set])))];refine ⟨h.sp,rfl,h.has,by show (b:Int)=((AU _ _ _ _ _).1:Int);rw [x],?_,?_,fun e=>?_,fun _=>?_⟩
 .exact n
 .show (AU _ _ _ _ _).2.2.1=_;rw [o,List.length_set]
 .have e:(AU p.cg p.cf p.cp p.T (1,b,f,g,kk,pc.data.toList)).1=0:=e;omega
 .show a=((AU _ _ _ _ _).2.1:Int);exact y.symm
theorem Zcr.clr {o b f a g:Int} {hx:Option HX} {G k:List ByteArray} {r:Bool} {p:AF} {c d i kk:Nat} {pc:jt} (h:Zcr o hx b f G r p) (t:Zcs hx<(c:Int)/\b<=(c:Int)/\kk<i/\d &&& p.fm≠0) (l:0<c) (m:ZcI b f G c d i a k) (u:(d:Int)=a) (v:i=k.length) (w:pc.size≠0) (x:∀s∈k.set kk pc,s.size≠0) (y:∀z A B,Bj ((k.set kk pc).flatMap fun s=>s.data.toList)≠some (d,c,z,A,B)):
  Zcr o hx 0 g [] false (DO p (1,c,d,i,kk,pc.data.toList)):=by
 have q:=h.newT (kk:=kk) (pc:=pc) l m jo w;obtain ⟨C,E,D,F⟩:=h.com (kk:=kk) (pc:=pc.data.toList) l m;have n:(AU p.cg p.cf p.cp p.T (1,c,d,i,kk,pc.data.toList)).2.1=d:=jo
 rw [Wn rfl ((h.use l m).2 ⟨t,u,v⟩) (by rw [q,D,(Zda _ 0).2 x,List.length_set]) (by rw [q,Zdl,C,n];exact y)];exact ⟨h.sp,rfl,h.has,rfl,rfl,rfl,fun _=>⟨rfl,rfl⟩,fun e=>absurd rfl e⟩
theorem Zcr.held {q d g b i:Int} {hx:Option HX} {G l:List ByteArray} {t:Bool} {p:AF} {a f k kk:Nat} {pc:jt} {c:Ac} {B:List BK} {E:List EN} (h:Zcr q hx d g G t p) (u:Zcs hx<(a:Int)/\d<=(a:Int)/\kk<k/\f &&& p.fm≠0) (m:0<a) (n:ZcI d g G a f k b l) (v:(f:Int)=b) (w:k=l.length) (x:pc.size≠0) (y:∀s∈l.set kk pc,s.size≠0) (z:Bj ((l.set kk pc).flatMap fun s=>s.data.toList)=some (f,a,{c with formats:=0},B,E.map (Zai B))):
  Zcr q (some (c,(a:Int),B,E)) 0 i [] false (DO p (1,a,f,k,kk,pc.data.toList)):=by
 have r:=h.newT (kk:=kk) (pc:=pc) m n jo x;obtain ⟨A,D,C,F⟩:=h.com (kk:=kk) (pc:=pc.data.toList) m n;have o:(AU p.cg p.cf p.cp p.T (1,a,f,k,kk,pc.data.toList)).2.1=f:=jo
 rw [QX rfl ((h.use m n).2 ⟨u,v,w⟩) (by rw [r,C,(Zda _ 0).2 y,List.length_set]) (by rw [r,Zdl,A,o];exact z)];refine ⟨h.sp,rfl,⟨?_,?_,rfl,rfl,rfl⟩,rfl,rfl,rfl,fun _=>⟨rfl,rfl⟩,fun e=>absurd rfl e⟩
 .show (AU _ _ _ _ _).1≠0;omega
 .show (a:Int)=((AU _ _ _ _ _).1:Int);omega
end Go.Proofs.YtpapdkhjdelfcaaGreat
