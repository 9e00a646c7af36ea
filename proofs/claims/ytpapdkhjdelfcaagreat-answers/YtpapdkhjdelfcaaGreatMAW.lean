import Derived.Test.YtpapdkhjdelfcaaGreatMAV
namespace Go.Proofs.YtpapdkhjdelfcaaGreat
open Go.RowKit
set_option maxRecDepth 100000
set_option maxHeartbeats 4000000
theorem OH (a:Nat) (y:Nat×AF×List Nat):∀(l:List (Nat×AF×List Nat)) (k:Nat) (b:k<l.length),(Bh (l.set k y)).count a+(l[k].1::l[k].2.2).count a=(Bh l).count a+(y.1::y.2.2).count a:=by
 intro l
 induction l with
 |nil=>intro k b;simp at b
 |cons z l ih=>
  intro k b;unfold Bh at *;cases k with
  |zero=>simp only [List.set_cons_zero,List.flatMap_cons,List.count_append,List.getElem_cons_zero];omega
  |succ k=>
   have:=ih k (by simpa using b);simp only [List.set_cons_succ,List.flatMap_cons,List.count_append,List.getElem_cons_succ];omega
theorem Dv {a:Nat} {l:jr}:a∈l↔1<=l.count a:=List.count_pos_iff.symm
theorem Ji {l:jr} (h:l.Nodup) (a:Nat):l.count a<=1:=List.nodup_iff_count.1 h a
theorem O8 (v:ju):(gl v).Nodup:=by
 unfold gl;cases v.ownBlock <;>simp
theorem FZ (x:AT) (s a:Nat):(x.own s).count a=[s].count a+x.L.count a+(Bh x.ps).count a:=by
 have:x.own s=[s]++(x.L++Bh x.ps):=rfl;rw [this];simp only [List.count_append];omega
theorem JW {l:List (Nat×AF×List Nat)} {k:Nat} (b:k<l.length) (a:Nat):(l[k].1::l[k].2.2).count a<=(Bh l).count a:=by
 induction l generalizing k with
 |nil=>simp at b
 |cons z l ih=>
  unfold Bh at *;cases k with
  |zero=>simp only [List.flatMap_cons,List.count_append,List.getElem_cons_zero];omega
  |succ k=>
   have:=ih (k:=k) (by simpa using b);simp only [List.flatMap_cons,List.count_append,List.getElem_cons_succ];omega
theorem NA {l:List (Nat×AF×List Nat)} {i k:Nat} (d:i<l.length) (b:k<l.length) (c:i≠k) (a:Nat):(l[i].1::l[i].2.2).count a+(l[k].1::l[k].2.2).count a<=(Bh l).count a:=by
 induction l generalizing i k with
 |nil=>simp at b
 |cons z l ih=>
  unfold Bh at *;cases i with
  |zero=>
   cases k with
   |zero=>exact absurd rfl c
   |succ k=>
    have:=JW (l:=l) (k:=k) (by simpa using b) a;unfold Bh at this;simp only [List.flatMap_cons,List.count_append,List.getElem_cons_succ,List.getElem_cons_zero];omega
  |succ i=>
   cases k with
   |zero=>
    have:=JW (l:=l) (k:=i) (by simpa using d) a;unfold Bh at this;simp only [List.flatMap_cons,List.count_append,List.getElem_cons_succ,List.getElem_cons_zero];omega
   |succ k=>
    have:=ih (i:=i) (k:=k) (by simpa using d) (by simpa using b) jo;simp only [List.flatMap_cons,List.count_append,List.getElem_cons_succ];omega
def AT.setP (x:AT) (n q:Nat) (p:AF) (R:jr):AT:={x with ps:=x.ps.set n (q,p,R)}
theorem AG.plane {M:jr} {s:Nat} {x:AT} {w w':jj} {n:Nat} {l:AF} (h:AG M s x w) (W:∀k∈M,k<w.heap.size) (E:n<x.ps.length) (hp:l.OK) (hT:Hc M x.ps[n].1 x.ps[n].2.2 l w w'):
  ∃b,(∀k∈b,(k∈x.ps[n].2.2\/w.heap.size<=k)/\k<w'.heap.size)/\Ab (x.ps[n].1::x.ps[n].2.2) w w'/\AG (b++M) s (x.setP n x.ps[n].1 l b) w':=by
 obtain ⟨F,N,b,X,hR,G⟩:=hT;have q:=h.inM;have H:=h.nodup;have v:=Ji H;have r:=FZ x s;have g:=fun a=>JW E a
 have z:∀j∈x.ps[n].1::x.ps[n].2.2,j∈M:=fun j d=>q j (Dv.2 (by have:=Dv.1 d;have:=g j;have:=r j;omega))
 have A:∀j∈x.ps[n].1::x.ps[n].2.2,j∈N++M\/w.heap.size<=j:=fun j d=>Or.inl (jU _ (z j d))
 have hg:=h.grow N X;obtain ⟨vL,a1,a2,Y,a4,u,a6,a7⟩:=hg;have B:∀k∈b,k∈x.ps[n].2.2\/w.heap.size<=k:=fun k f=>(hR k f).imp id (X k)
 have I:b.Nodup:=by
  obtain ⟨_,_,vP,vE,vT,_,_,_,_,t⟩:=G;rw [<-t];exact O8 _
 have J:∀k∈b,k<w'.heap.size:=fun k f=>by
  obtain ⟨_,_,vP,vE,vT,_,_,_,K,t⟩:=G;rw [<-t] at f;exact (World.ownsRow.lt K k (by unfold gl at f;simpa using f)).2
 have o:=fun a=>OH a (x.ps[n].1,l,b) x.ps n E
 have O:s∉x.ps[n].1::x.ps[n].2.2:=fun e=>by
  have P:=Dv.1 e;have Q:=g s;have R:=r s;have S:=v s;have T:[s].count s=1:=js
  omega
 have U:∀k∈x.L,k∉x.ps[n].1::x.ps[n].2.2:=fun k f e=>by
  have P:=Dv.1 e;have Q:=g k;have R:=r k;have S:=v k;have T:=Dv.1 f;omega
 have C:AG (N++M) s (x.setP n x.ps[n].1 l b) w':=by
  refine ⟨vL,a1.but F O A,?_,Y,a4,fun y hy=>?_,?_,by simpa [AT.setP] using a7⟩
  .have e:((x.setP n x.ps[n].1 l b).ps.map fun y=>y.1)=x.ps.map fun y=>y.1:=by
    unfold AT.setP;apply List.ext_getElem
    .simp
    .intro i i1 i2;simp only [List.getElem_map,List.getElem_set];split
     .rename_i e;subst e;rfl
     .rfl
   rw [e]
   exact MO a2 F (fun k f=>U k (by rw [<-Y];exact f))
  .obtain ⟨i,hi,rfl⟩:=List.mem_iff_getElem.1 hy;have m:i<x.ps.length:=by simpa [AT.setP] using hi
   by_cases c:n=i
   .subst c;simp only [AT.setP,List.getElem_set_self];exact ⟨G,hp⟩
   .simp only [AT.setP,List.getElem_set_ne c];refine ⟨(u _ (jJ m)).1.but F (fun e=>?_) (fun j d e=>?_) A,(u _ (jJ m)).2⟩
    .have P:=NA m E (Ne.symm c) x.ps[i].1;have Q:=Dv.1 e;have R:=r x.ps[i].1;have S:=v x.ps[i].1;have T:1<=(x.ps[i].1::x.ps[i].2.2).count x.ps[i].1:=Dv.1 js;omega
    .have P:=NA m E (Ne.symm c) j;have Q:=Dv.1 e;have R:=r j;have S:=v j;have T:1<=(x.ps[i].1::x.ps[i].2.2).count j:=Dv.1 (jW _ d);omega
  .refine List.nodup_iff_count.2 fun a=>?_
   have V:=FZ (x.setP n x.ps[n].1 l b) s a;rw [V];have p:=o a;have Z:=r a;have e4:=v a;have e5:=Ji I a;show [s].count a+x.L.count a+(Bh (x.ps.set n (x.ps[n].1,l,b))).count a<=1;simp only [List.count_cons] at p Z |-;by_cases D:a∈b
   .rcases B a D with e|e
    .have u:=Dv.1 e;omega
    .have u:(x.own s).count a=0:=jZ fun p=>by
      have:=W a (q a (jb.1 p));omega
     have a6:(if (x.ps[n].1==a)=true then 1 else 0)=0:=by
      rw [if_neg];intro e6;have:=W _ (z x.ps[n].1 js);have:x.ps[n].1=a:=by simpa using e6
      omega
     omega
   .have u:b.count a=0:=jZ fun p=>D (jb.1 p)
    omega
 refine ⟨b,fun k f=>⟨B k f,J k f⟩,F,C.narrow (fun j d=>?_) (fun j d=>?_)⟩
 .rcases jT.1 d with d|d
  .exact (G.2.1 j d)
  .exact jU _ d
 .have V:=FZ (x.setP n x.ps[n].1 l b) s j;have p:=o j;have Z:=r j;have e4:=Dv.1 d;rw [V] at e4;by_cases D:j∈b
  .exact jg _ D
  .refine jU _ (q j (Dv.2 ?_));have u:b.count j=0:=jZ fun p=>D (jb.1 p)
   simp only [AT.setP,List.count_cons] at *;omega
def Ml (M:jr) (s:Nat) (x:AT) (n:Nat) (c:n<x.ps.length) (b:AF) (w:jj) (e:Ending) (w':jj):Prop:=e= .returned (.int .i64 0)/\∃a,(∀k∈a,(k∈x.ps[n].2.2\/w.heap.size<=k)/\k<w'.heap.size)/\Ab (x.ps[n].1::x.ps[n].2.2) w w'/\AG (a++M) s (x.setP n x.ps[n].1 b a) w'
theorem U8 {M:jr} {s:Nat} {x:AT} {n:Nat} {w:jj} (h:AG M s x w) (c:∀k∈M,k<w.heap.size) (a:n<x.ps.length) (t:jt) (d:t.size<=1099511627776):
  Calls Tryz.prog 79 #[.pointer (some ⟨s,0,none⟩),.int .i64 (n:Int),.string t] w (Ml M s x n a (Ju x.ps[n].2.1 t.data.toList) w):=by
 have b:=h.pl a;refine (T4 ((h.dp n).1 n a rfl) b.1 b.2 c d).mono ?_;rintro e w' ⟨rfl,f⟩;exact ⟨rfl,h.plane c a (X9 b.2 _) f⟩
theorem Wt {M:jr} {s:Nat} {x:AT} {n:Nat} {w:jj} (h:AG M s x w) (c:∀k∈M,k<w.heap.size) (a:n<x.ps.length):
  Calls Tryz.prog 81 #[.pointer (some ⟨s,0,none⟩),.int .i64 (n:Int)] w (Ml M s x n a (DX x.ps[n].2.1.fm) w):=by
 have b:=h.pl a;refine (RN ((h.dp n).1 n a rfl) b.1).mono ?_;rintro e w' ⟨rfl,d⟩;exact ⟨rfl,h.plane c a (Oc b.2.fm) d⟩
theorem XD {M:jr} {s:Nat} {x:AT} {n:Nat} {w:jj} (h:AG M s x w) (a:n<x.ps.length):
  Calls Tryz.prog 77 #[.pointer (some ⟨s,0,none⟩),.int .i64 (n:Int)] w (Ff w (IS x.ps[n].2.1.g x.ps[n].2.1.fm x.ps[n].2.1.cg x.ps[n].2.1.cf x.ps[n].2.1.T,0)):=
 Rc ((h.dp n).1 n a rfl) (h.pl a).1 (h.pl a).2
theorem TZ {M:jr} {s:Nat} {x:AT} {n:Nat} {w:jj} (h:AG M s x w) (a:n<x.ps.length):
  Calls Tryz.prog 82 #[.pointer (some ⟨s,0,none⟩),.int .i64 (n:Int)] w (F4 w (Ix x.ps[n].2.1.g x.ps[n].2.1.nf)):=
 QG ((h.dp n).1 n a rfl) (h.pl a).1
theorem YC {M:jr} {s:Nat} {x:AT} {n:Nat} {w:jj} (h:AG M s x w) (a:n<x.ps.length) (k:jt) (b:k.size<=4611686018427386000):
  Calls Tryz.prog 84 #[.pointer (some ⟨s,0,none⟩),.int .i64 (n:Int),.string k] w (EH w (IR x.ps[n].2.1.g x.ps[n].2.1.c x.ps[n].2.1.B x.ps[n].2.1.E k)):=
 XE ((h.dp n).1 n a rfl) (h.pl a).1 (h.pl a).2 b
def Oz (M:jr) (s:Nat) (x:AT) (fm:Nat) (w:jj) (e:Ending) (w':jj):Prop:=∃p a,e= .returned (.tuple #[.int .i64 (x.ps.length:Int),.int .i64 0])/\Ab (s::x.L) w w'/\(w.heap.size<=p/\p<w'.heap.size)/\(∀k∈a,(k∈x.L\/w.heap.size<=k)/\k<w'.heap.size)/\AG (p::(a++M)) s {x with L:=a,ps:=x.ps++[(p,DX fm,[])]} w'
theorem Qv {M:jr} {s:Nat} {x:AT} {fm:Nat} {w:jj} (h:AG M s x w) (hM:∀k∈M,k<w.heap.size) (hl:x.ps.length<4) (Q:1<=fm/\fm<=3):
  Calls Tryz.prog 70 #[.pointer (some ⟨s,0,none⟩),.int .i64 (fm:Int)] w (Oz M s x fm w):=by
 have t:=h.inM;have F:=h.nodup;have G:=Ji F;have H:=FZ x s;obtain ⟨vL,R,a2,S,T,U,a6,a7⟩:=h;have aa:=R.lt
 have I:s∉x.L:=fun e=>by
  have b1:=Dv.1 e;have b3:=H s;have b4:=G s;have b5:[s].count s=1:=js
  omega
 obtain ⟨v,vP,vE,hT,h8,hF,V,W⟩:=R;refine (XM s fm vL (x.ps.map fun y=>y.1) w hF.2.1 hF.2.2 a2 (by simpa using hl) Q (fun e=>I (by rw [<-S];unfold gl;rw [e];simp))).mono ?_;rintro e w' ⟨p,f,rfl,E,X,Y,c9,l,z,J,i⟩;rw [S] at E z;have n:∀k∈gl f,f.ownBlock=some k:=fun k i=>by unfold gl at i;simpa using i
 have q:∀k∈gl f,(k∈x.L\/w.heap.size<=k)/\k<w'.heap.size:=fun k i=>⟨z k (n k i),(World.ownsRow.lt l k (n k i)).2⟩
 refine ⟨p,gl f,js,E,⟨X,Y.lt⟩,q,?_⟩;have A:∀j∈M,j∈p::(gl f++M):=fun j d=>by simp [d]
 have Z:∀j∈p::(gl f++M),j∈M\/w.heap.size<=j:=fun j d=>by
  rcases ja.1 d with e|d
  .rw [e];exact Or.inr X
  .rcases jT.1 d with d|d
   .exact (q j d).1.imp (T j) id
   .exact Or.inl d
 have B:∀j∈s::x.L,j∈p::(gl f++M)\/w.heap.size<=j:=fun j d=>by
  rcases ja.1 d with e|d
  .rw [e];exact Or.inl (A _ v)
  .exact Or.inl (A _ (T j d))
 have C:Aa (Ay (p::(gl f++M)) w) (Ay (p::(gl f++M)) w'):=E.mono B;rw [<-Mr A Z] at V W;have c:∀{o:Nat} {u:ju},o≠9->w.cell? ⟨s,o,none⟩=some u->w'.cell? ⟨s,o,none⟩=some u:=fun ho K=>(i.1 _ ho).trans K
 have b:∀{o:Nat},w.frozen? ⟨s,o,none⟩=false->w'.frozen? ⟨s,o,none⟩=false:=fun K=>(i.2 _).trans K
 obtain ⟨⟨t0,t1,t2,t3,t4,t5⟩,t6,t7⟩:=hT;obtain ⟨⟨f0,f1,f2,f3,f4,f5,f6,f7,f8⟩, -,f9⟩:=hF
 have m:∀j∈Bh x.ps,j∈M/\j∉s::x.L:=fun j d=>by
  have b1:=Dv.1 d;have b3:=H j;have b4:=G j;refine ⟨t j (Dv.2 jo),fun e=>?_⟩;have b5:=Dv.1 e
  have b6:(s::x.L).count j=[s].count j+x.L.count j:=by
   have:s::x.L=[s]++x.L:=rfl;rw [this,List.count_append]
  omega
 refine ⟨f,⟨A _ v,vP,vE,⟨⟨c ji t0,c ji t1,c ji t2,c ji t3,c ji t4,c ji t5⟩,c ji t6,c ji t7⟩,c ji h8,⟨⟨b f0,b f1,b f2,b f3,b f4,b f5,b f6,b f7,b f8⟩,c9,b f9⟩,V.later C,W.later C⟩,by simpa using l,rfl,fun k i=>by simp [i],fun y r=>?_,?_,jx⟩
 .rcases jT.1 r with r|r
  .have D:=Hy r;exact ⟨((U y r).1.wide A Z).but E (m _ D.1).2 (fun j d=>(m _ (D.2 j d)).2) B,(U y r).2⟩
  .rw [jP.1 r];exact ⟨Br.ofNew Y js,Oc Q⟩
 .refine List.nodup_iff_count.2 fun a=>?_
  have e1:=FZ {x with L:=gl f,ps:=x.ps++[(p,DX fm,[])]} s a;rw [e1]
  have g:(Bh (x.ps++[(p,DX fm,[])])).count a=(Bh x.ps).count a+[p].count a:=by
   unfold Bh;rw [List.flatMap_append,List.count_append];rfl
  show [s].count a+(gl f).count a+(Bh (x.ps++[(p,DX fm,[])])).count a<=1;rw [g];have e3:=H a;have e4:=G a;have e5:=Ji (O8 f) a
  have e6:w.heap.size<=a->(x.own s).count a=0:=fun h=>jZ fun g=>by
   have:=hM a (t a (jb.1 g));omega
  have e7:[p].count a<=1:=Ji js a;by_cases N:a∈gl f
  .have O:=J a (n a N);have e9:[p].count a=0:=jZ fun g=>O.1 (jP.1 (jb.1 g))
   have ab:[s].count a=0:=jZ fun g=>O.2 (jP.1 (jb.1 g))
   rcases (q a N).1 with e|e
   .have:=Dv.1 e;omega
   .have:=e6 e;omega
  .have O:(gl f).count a=0:=jZ fun g=>N (jb.1 g)
   by_cases P:a=p
   .have:=e6 jo;omega
   .have e9:[p].count a=0:=jZ fun g=>P (jP.1 (jb.1 g))
    omega
theorem XH {M:jr} {s:Nat} {x:AT} {f:Int} {w:jj} (h:AG M s x w) (a:4<=x.ps.length) (b:1<=f/\f<=3):
  Calls Tryz.prog 70 #[.pointer (some ⟨s,0,none⟩),.int .i64 f] w (F4 w (-1,6)):=by
 obtain ⟨c,⟨_,g,i,k,l,hF,m,n⟩,d, -⟩:=h;exact Ue s f c _ w hF.2.1 d (by simpa using a) b
theorem NG (l:jy):(Ai l).size=l.length:=by simp [Ai,ByteArray.size]
theorem Jf (x:BitVec 32):(Cn x).length=4:=rfl
theorem Py {f g:Nat} {c:Ac} {B:List BK} {E:List EI} (a:c.TOK) (b:AL B) (d:E.length<=65536):(BJ f g c B E).length<=16777216:=by
 have i:=Jb (f:=f) (g:=g) (c:=c) a.2.2.2.2.2.2.2.2.2 b d;unfold BJ;rw [jO,Jf];omega
theorem Yh {f:Int} {g:Nat} {c:Ac} {B:List BK} {E:List EI} (a:c.TOK) (b:AL B) (d:E.length<=65536):(I9 f g c B E).1.length<=16777216:=by
 unfold I9;split
 .split
  .simp
  .exact Py a b d
 .simp
theorem Zm {b s g:Nat} {B:List BK} {ah bh:Nat} {M:List EI} {alg:Int} (a:AL B) (c:M.length<=65536):(G6 b s g B ah bh M alg).length<=16777216:=by
 have d:=jX (Gi _ (Hl b s g B ah bh M alg) (jH _)) (Zdq a c);unfold G6;rw [jO,Jf];omega
theorem QQ (b c:jy):(DN b c).1.length<=16777216:=by
 unfold DN;split
 .rename_i g d;have a:=Hp d;split
  .have f:=a.len;exact Zm a.good.1 (jX (List.length_take_le' _ _) (jX (by rw [jh];exact Nat.sub_le _ _) (jX f ji)))
  .simp
 .simp
theorem Rb (c d:jy):(DH c d).1.length<=16777216:=by
 unfold DH;split
 .rename_i f;have a:=Hp f;split
  .rename_i g;have b:=PY g;split
   .split
    .split
     .rename_i i;have k:=LU a.tok b.good.1;have l:=i.2.1;exact Py a.tok b.good.1 jo
     .simp
    .simp
   .simp
  .simp
 .simp
theorem Q6 (g fm cg cf:Nat) (T:List TP):(IS g fm cg cf T).length<=16777216:=by
 unfold IS;rw [jO,Jf];have a:=Gi _ (DL g fm cg cf (Dq T)) (jH _);have b:(DL g fm cg cf (Dq T)).length<=1000:=by simp [DL,Bd,Bk]
 omega
theorem SP (a:Bl) (h:a.2.2.2.2.2.length<=48):(Hu a).length<=16777216:=by
 unfold Hu;split
 .rw [jO,Jf];have b:=Gi _ (Et a.2.1 a.2.2.1 a.2.2.2.1 a.2.2.2.2.1 (Ai a.2.2.2.2.2)) (jH _);have c:(Ai a.2.2.2.2.2).data.toList=a.2.2.2.2.2:=rfl
  have d:(Et a.2.1 a.2.2.1 a.2.2.2.1 a.2.2.2.2.1 (Ai a.2.2.2.2.2)).length<=1000:=by
   unfold Et DB;rw [c];simp only [jO,Bd,Bk,List.length_nil,List.length_cons];omega
  omega
 .rw [jO,Jf];have b:=Gi _ (DB a.1) (jH _);have d:(DB a.1).length<=1000:=by simp [DB,Bd,Bk]
  omega
theorem Tq (fm g:Nat) (c:Ac) (B:List BK) (E:List EI) (l:jy):(GO fm g c B E l).length<=16777216:=by
 unfold GO;split
 .refine SP _ ?_;unfold Ef;split
  .simp
  .split
   .simp
   .dsimp only;exact PM _ _
 .simp
end Go.Proofs.YtpapdkhjdelfcaaGreat
