import Derived.Test.YtpapdkhjdelfcaaGreatMAB
import Derived.Deep.RegionHeldLaw
import Derived.Deep.RegionLawGrows
import Derived.Deep.Onto
namespace Go.Proofs.YtpapdkhjdelfcaaGreat
open Go.RowKit
set_option maxRecDepth 100000
set_option maxHeartbeats 4000000
def Dr (B:List BK) (id:jt):Int:=if Bq id B<B.length then (Bq id B:Int) else -1
theorem Qi {B:List BK} {id:jt} {k:Nat} (g:k<B.length) (f:B[k].1=id) (a:∀j (h:j<B.length),j<k->B[j].1≠id):Bq id B=k:=by
 have c:Bq id B<B.length:=Lh ⟨_,jJ g,f⟩;have d:=Ho c;by_cases i:Bq id B<k
 .exact absurd d (a _ c i)
 by_cases l:k<Bq id B
 .have:=List.not_of_lt_findIdx (p:=fun b:BK=>b.1.toList==id.toList) l;exact absurd (FE.2 f) (by simpa using this)
 .omega
def J9 (w:jj) (B:List BK) (id:jt) (e:Ending) (w':jj):Prop:=e= .returned (.int .i64 (Dr B id))/\Aa w w'
theorem J8 (B:List BK) (v:ju) (id:jt) (w:jj) (s:Am w v B) (z:B.length<=9):
  Calls Tryz.prog 27 #[v,.string id] w (J9 w B id):=by
 obtain ⟨A,cap,rfl,i⟩:=s.open;go_enter Tryz.func27,Tryz.ntmps27;go_wp2;go_loopg [9] B.length (fun r n wr=>Aa w wr/\∃k:Nat,r=B.length - k/\k<=B.length/\n= .int .i64 k/\∀j (h:j<B.length),j<k->B[j].1≠id)
 case atStart=>exact ⟨jD _,0,jo,jo,rfl,fun j _ h=>by omega⟩
 case round=>
  obtain ⟨o,k,C,D,rfl,b⟩:=hrel;have l:Hid (∀j (h:j<B.length),j<k->B[j].1≠id):=b;clear b;by_cases c:k<B.length
  .obtain ⟨g,rfl,p,q⟩:=i k c;have t:=o.cell p;have u:=o.cell q;clear i p q;cases d:B[k].1.toList==id.toList
   .have f:Hid (∀j (h:j<B.length),j<k+1->B[j].1≠id):=fun j h E=>by
     by_cases x:j=k
     .subst x;intro e;rw [FE.2 e] at d;cases d
     .exact l.out j h jo
    generalize B[k].1=m at *
    generalize B[k].2=y at *
    go_wp2
    go_roundg (B.length - (k+1))
    case measure=>omega
    case rel=>exact ⟨jq,k+1,rfl,jo,by go_num,f.out⟩
   .have a:Hid (Dr B id=k):=by
     have:=Qi c (FE.1 d) l.out;show Dr B id=k;rw [Dr,this,if_pos c]
    generalize B[k].1=m at *
    generalize B[k].2=y at *
    go_wp2
    go_ret
    exact ⟨BO a.out.symm,jq⟩
  .have a:Hid (Dr B id= -1):=by
    show Dr B id= -1;rw [Dr,if_neg];intro h;exact l.out _ h jo (Ho h)
   clear i
   go_wp2
   go_ret
   exact ⟨BO a.out.symm,jq⟩
theorem Lc (B:List BK) (k:Nat) (h:k<B.length):As (B.take (k+1))=As (B.take k)+B[k].2:=by
 rw [jQ h,As,As,List.map_append,List.sum_append];simp
theorem Kq (B:List BK) (h:∀b∈B,0<=b.2/\b.2<=6) (k:Nat):0<=As (B.take k)/\As (B.take k)<=6 * k:=by
 induction k with
 |zero=>simp [As]
 |succ k ih=>
  by_cases a:k<B.length
  .have:=h _ (jJ a);rw [Lc B k a];omega
  .rw [jR jo];rw [jR jo] at ih;omega
def J0 (w:jj) (x:Int) (e:Ending) (w':jj):Prop:=e= .returned (.int .i64 x)/\Aa w w'
theorem Mx (B:List BK) (v:ju) (w:jj) (o:Am w v B) (p:AL B):
  Calls Tryz.prog 86 #[v] w (J0 w (As B)):=by
 obtain ⟨G,a⟩:=p;obtain ⟨H,cap,rfl,i⟩:=o.open;go_enter Tryz.func86,Tryz.ntmps86;go_wp2;go_loopg [3,8] B.length (fun r s n wr=>Aa w wr/\∃k:Nat,r=B.length - k/\k<=B.length/\n= .int .i64 k/\s= .int .i64 (As (B.take k)))
 case atStart=>exact ⟨jD _,0,jo,jo,rfl,rfl⟩
 case round=>
  obtain ⟨f,k,I,J,rfl,rfl⟩:=hrel;have d:=Kq B (fun b f=>(a b f).2.2) k;have q:k<=8:=jo
  by_cases c:k<B.length
  .obtain ⟨g,rfl,l,m⟩:=i k c;have t:=f.cell l;have u:=f.cell m;have x:Hid (As (B.take (k+1))=As (B.take k)+B[k].2):=Lc B k c;have y:=(a _ (jJ c)).2.2;clear i l m;generalize B[k].1=z at *;generalize B[k].2=K at *;generalize As (B.take k)=L at *;obtain ⟨A,C⟩:=y;obtain ⟨D,E⟩:=d;go_wp2;go_roundg (B.length - (k+1))
   case measure=>omega
   case rel=>exact ⟨jq,k+1,rfl,jo,by go_num,by rw [x.out]⟩
  .have F:Hid (As (B.take k)=As B):=by rw [jR jo];rfl
   clear i d;go_wp2;go_ret;exact ⟨BO F.out,jq⟩
theorem Ty {m:BK} {B L:List BK} {k:Nat} {a:Bool} (c:k<B.length) (h:L++(if a then B.drop k else Bg m (B.drop k))=Bg m B):
  (a=true->L++[B[k]]++B.drop (k+1)=Bg m B)/\(a=false->AO m.1 B[k].1=true->L++[m]++[B[k]]++B.drop (k+1)=Bg m B)/\(a=false->AO m.1 B[k].1=false->L++[B[k]]++Bg m (B.drop (k+1))=Bg m B):=by
 rw [List.drop_eq_getElem_cons c] at h;refine ⟨fun e=>?_,fun e b=>?_,fun e b=>?_⟩
 .subst e;rw [<-h];simp
 .subst e;rw [<-h];simp [Bg,b]
 .subst e;rw [<-h];simp [Bg,b]
theorem JD {w w':jj} {row:Option Nat} (h:w.grownBy w' row) {a:Addr} {v:ju} (b:w.cell? a=some v) (c:row≠some a.block):w'.cell? a=some v:=by
 rw [World.cell?_of_block (w:=w) (h.block a.block (World.block_lt_of_cell? w a b) (fun e=>c e.symm))];exact b
theorem AJ.snoc {base:Nat} {w:jj} {v:ju} {L:List BK} {b:BK} {n:Nat} (h:w.ownsRow base 57 2 v n (AC L++[.string b.1,.int .i64 b.2])) (a:n=L.length+1):AJ base w v (L++[b]):=by
 unfold AJ;rw [Ve,jO];subst a;exact h
theorem Wz (B:List BK) (v:ju) (m:BK) (w:jj) (hP:Am w v B) (hB:B.length<=8):
  Calls Tryz.prog 28 #[v,.agg #[.string m.1,.int .i64 m.2]] w (KP w (Bg m B)):=by
 obtain ⟨R,S,x,y,z⟩:=info_parts Tryz.infoBK;obtain ⟨a,i⟩:=m;simp only;obtain ⟨ao,cap,rfl,Y⟩:=hP.open;go_enter Tryz.func28,Tryz.ntmps28;go_wp2_with (first|(at_make;refine wpList_make_own _ rfl _ _ 45 rfl (w.heap.size+1) 57 R (.agg #[.string ByteArray.empty,.int .i64 0]) 2 Tryz.underlying45 S x y _ _ _ (B.length+1) rfl rfl ?b1 ?b2 ?b3 ?b4 ?_))
 case b1=>omega
 case b2=>rw [z];omega
 case b3=>unfold maxLen;omega
 case b4=>simp
 intro w1 F p;have P:Aa (w.alloc (.cells #[.string a,.int .i64 i] 57)) w1:=(jD _).grown p (fun g G=>by cases G);have N:AJ (w.heap.size+1) w1 (.slice (some ⟨w.heap.size+1,0,none⟩) 0 (B.length+1)) []:=F;obtain ⟨E,A⟩:∃E,E=w.alloc (.cells #[.string a,.int .i64 i] 57):=⟨_,rfl⟩;rw [<-A] at P;have m0:E.cell? ⟨w.heap.size,0,none⟩=some (.string a):=by rw [A];simp
 have m1:E.cell? ⟨w.heap.size,1,none⟩=some (.int .i64 i):=by rw [A];simp
 have M:Aa w E:=by rw [A];exact (jD w).step_alloc _
 have ac:E.heap.size=w.heap.size+1:=by rw [A];simp
 clear p F A;generalize (Value.slice (some ⟨w.heap.size+1,0,none⟩) 0 (B.length+1))=v1 at *;go_wp2;go_loopg [5,6,15] B.length (fun r vL vl n wr=>Aa E wr/\∃(k:Nat) (f:Bool) (L:List BK),r=B.length - k/\k<=B.length/\n= .int .i64 k/\vl= .bool f/\AJ (w.heap.size+1) wr vL L/\L++(if f then B.drop k else Bg (a,i) (B.drop k))=Bg (a,i) B)
 case atStart=>exact ⟨P,0,false,[],jo,jo,rfl,rfl,N,js⟩
 case round=>
  obtain ⟨K,k,f,L,hr,hk,rfl,rfl,hL,C⟩:=hrel
  have ad:L.length<=9:=by
   have:=congrArg List.length C;rw [Qa,jO] at this;omega
  have ae:=K.size;have af:w.heap.size<wr.heap.size:=jo
  have n0:=K.cell m0;have n1:=K.cell m1;have H:=jp hL;clear P N hL;by_cases T:k<B.length
  .obtain ⟨g,rfl,c0,c1⟩:=Y k T;have Z:=(M.trans K).cell c0;have aa:=(M.trans K).cell c1;obtain ⟨s1,s2,s3⟩:=Ty T C;have V:Hid (f=true->L++[B[k]]++B.drop (k+1)=Bg (a,i) B):=s1;have W:Hid (f=false->AO a B[k].1=true->L++[(a,i)]++[B[k]]++B.drop (k+1)=Bg (a,i) B):=s2;have X:Hid (f=false->AO a B[k].1=false->L++[B[k]]++Bg (a,i) (B.drop (k+1))=Bg (a,i) B):=s3;clear Y c0 c1 s1 s2 s3 C;generalize B[k]=bk at *;obtain ⟨l,D⟩:=bk;simp only at Z aa;cases f
   .cases I:Op.bytesLess a.toList l.toList
    .have U:Hid (L++[(l,D)]++(if false=true then B.drop (k+1) else Bg (a,i) (B.drop (k+1)))=Bg (a,i) B):=X.out rfl I;clear V W X;go_wp2_with (first|(at_builtin;refine wpList_append_own _ rfl _ _ 45 rfl (w.heap.size+1) 57 R (.agg #[.string ByteArray.empty,.int .i64 0]) 2 24 Tryz.underlying45 S x y z rfl ji _ (L).length (AC (L)) rfl ?p1a ⟨wr.heap.size+1,0,none⟩ 1 1 [.string l,.int .i64 D] rfl rfl ?da1 ?da2 ?da3 ?da4 ?da5 ?_))
     case p1a=>exact (World.ownsRow.alloc (World.ownsRow.alloc H.out _) _)
     try (case da1=>exact C8 _ _ _ _ _ js)
     case da2=>first|exact ⟨rfl,rfl⟩|exact Df rfl rfl|(intro u q;simp at q;rcases q with rfl|rfl <;>rfl)
     case da3=>(try simp only [jO,List.length_cons,List.length_nil]);unfold maxLen;omega
     case da4=>(try simp only [jO,List.length_cons,List.length_nil]);omega
     case da5=>first|omega|(simp;omega)
     intro Q s d c _;have o:Aa E s:=((K.step_alloc _).step_alloc _).grown c (fun g G=>by have:=(World.ownsRow.lt H.out g G).1;omega);have O:Hid (AJ (w.heap.size+1) s Q (L++[(l,D)])):=AJ.snoc (b:=(l,D)) d rfl;clear d c;go_wp2;go_roundg (B.length - (k+1))
     case measure=>omega
     case rel=>exact ⟨o,k+1,false,_,rfl,jo,by go_num,rfl,O.out,U.out⟩
    .have U:Hid (L++[(a,i)]++[(l,D)]++(if true=true then B.drop (k+1) else Bg (a,i) (B.drop (k+1)))=Bg (a,i) B):=W.out rfl I;clear V W X;go_wp2_with (first|(at_builtin;refine wpList_append_own _ rfl _ _ 45 rfl (w.heap.size+1) 57 R (.agg #[.string ByteArray.empty,.int .i64 0]) 2 24 Tryz.underlying45 S x y z rfl ji _ (L).length (AC (L)) rfl ?p1b ⟨wr.heap.size+1,0,none⟩ 1 1 [.string a,.int .i64 i] rfl rfl ?db1 ?db2 ?db3 ?db4 ?db5 ?_))
     case p1b=>exact (World.ownsRow.alloc (World.ownsRow.alloc H.out _) _)
     try (case db1=>exact C8 _ _ _ _ _ js)
     case db2=>first|exact ⟨rfl,rfl⟩|exact Df rfl rfl|(intro u q;simp at q;rcases q with rfl|rfl <;>rfl)
     case db3=>(try simp only [jO,List.length_cons,List.length_nil]);unfold maxLen;omega
     case db4=>(try simp only [jO,List.length_cons,List.length_nil]);omega
     case db5=>first|omega|(simp;omega)
     intro Q s d c _;have o:Aa E s:=((K.step_alloc _).step_alloc _).grown c (fun g G=>by have:=(World.ownsRow.lt H.out g G).1;omega);have O:Hid (AJ (w.heap.size+1) s Q (L++[(a,i)])):=AJ.snoc (b:=(a,i)) d rfl;have x0:s.cell? ⟨wr.heap.size,0,none⟩=some (.string l):=JD c js (fun e=>by have:=(World.ownsRow.lt H.out _ e).2;simp at this);have x1:s.cell? ⟨wr.heap.size,1,none⟩=some (.int .i64 D):=JD c js (fun e=>by have:=(World.ownsRow.lt H.out _ e).2;simp at this);have ag:=o.size;clear d c;go_wp2_with (first|(at_builtin;refine wpList_append_own _ rfl _ _ 45 rfl (w.heap.size+1) 57 R (.agg #[.string ByteArray.empty,.int .i64 0]) 2 24 Tryz.underlying45 S x y z rfl ji _ (L++[(a,i)]).length (AC (L++[(a,i)])) rfl ?p1c ⟨s.heap.size,0,none⟩ 1 1 [.string l,.int .i64 D] rfl rfl ?dc1 ?dc2 ?dc3 ?dc4 ?dc5 ?_))
     case p1c=>exact (World.ownsRow.alloc O.out _)
     try (case dc1=>exact C8 _ _ _ _ _ js)
     case dc2=>first|exact ⟨rfl,rfl⟩|exact Df rfl rfl|(intro u q;simp at q;rcases q with rfl|rfl <;>rfl)
     case dc3=>(try simp only [jO,List.length_cons,List.length_nil]);unfold maxLen;omega
     case dc4=>(try simp only [jO,List.length_cons,List.length_nil]);omega
     case dc5=>first|omega|(simp;omega)
     intro v3 w3 J t _;have ab:Aa E w3:=(o.step_alloc _).grown t (fun g G=>by have:=(World.ownsRow.lt O.out g G).1;omega);have H3:Hid (AJ (w.heap.size+1) w3 v3 (L++[(a,i)]++[(l,D)])):=AJ.snoc (b:=(l,D)) J js;clear J t;go_wp2;go_roundg (B.length - (k+1))
     case measure=>omega
     case rel=>exact ⟨ab,k+1,true,_,rfl,jo,by go_num,rfl,H3.out,U.out⟩
   .have U:Hid (L++[(l,D)]++(if true=true then B.drop (k+1) else Bg (a,i) (B.drop (k+1)))=Bg (a,i) B):=V.out rfl;clear V W X;go_wp2_with (first|(at_builtin;refine wpList_append_own _ rfl _ _ 45 rfl (w.heap.size+1) 57 R (.agg #[.string ByteArray.empty,.int .i64 0]) 2 24 Tryz.underlying45 S x y z rfl ji _ (L).length (AC (L)) rfl ?p1e ⟨wr.heap.size+1,0,none⟩ 1 1 [.string l,.int .i64 D] rfl rfl ?de1 ?de2 ?de3 ?de4 ?de5 ?_))
    case p1e=>exact (World.ownsRow.alloc (World.ownsRow.alloc H.out _) _)
    try (case de1=>exact C8 _ _ _ _ _ js)
    case de2=>first|exact ⟨rfl,rfl⟩|exact Df rfl rfl|(intro u q;simp at q;rcases q with rfl|rfl <;>rfl)
    case de3=>(try simp only [jO,List.length_cons,List.length_nil]);unfold maxLen;omega
    case de4=>(try simp only [jO,List.length_cons,List.length_nil]);omega
    case de5=>first|omega|(simp;omega)
    intro Q s d c _;have o:Aa E s:=((K.step_alloc _).step_alloc _).grown c (fun g G=>by have:=(World.ownsRow.lt H.out g G).1;omega);have O:Hid (AJ (w.heap.size+1) s Q (L++[(l,D)])):=AJ.snoc (b:=(l,D)) d rfl;clear d c;go_wp2;go_roundg (B.length - (k+1))
    case measure=>omega
    case rel=>exact ⟨o,k+1,true,_,rfl,jo,by go_num,rfl,O.out,U.out⟩
  .have hd:B.drop k=[]:=List.drop_eq_nil_of_le jo;rw [hd] at C;have HE:Hid (L++(if f then [] else [(a,i)])=Bg (a,i) B):=by unfold Hid;cases f <;>simpa [Bg] using C
   clear Y C hd;cases f
   .go_wp2_with (first|(at_builtin;refine wpList_append_own _ rfl _ _ 45 rfl (w.heap.size+1) 57 R (.agg #[.string ByteArray.empty,.int .i64 0]) 2 24 Tryz.underlying45 S x y z rfl ji _ (L).length (AC (L)) rfl ?p1f ⟨wr.heap.size,0,none⟩ 1 1 [.string a,.int .i64 i] rfl rfl ?df1 ?df2 ?df3 ?df4 ?df5 ?_))
    case p1f=>exact (World.ownsRow.alloc H.out _)
    try (case df1=>exact C8 _ _ _ _ _ js)
    case df2=>first|exact ⟨rfl,rfl⟩|exact Df rfl rfl|(intro u q;simp at q;rcases q with rfl|rfl <;>rfl)
    case df3=>(try simp only [jO,List.length_cons,List.length_nil]);unfold maxLen;omega
    case df4=>(try simp only [jO,List.length_cons,List.length_nil]);omega
    case df5=>first|omega|(simp;omega)
    intro Q s d c _;have o:Aa E s:=(K.step_alloc _).grown c (fun g G=>by have:=(World.ownsRow.lt H.out g G).1;omega);have O:Hid (AJ (w.heap.size+1) s Q (L++[(a,i)])):=AJ.snoc (b:=(a,i)) d rfl;clear d c;go_wp2;go_ret;exact ⟨_,rfl,M.trans o,by have:=O.out;rw [show L++[(a,i)]=Bg (a,i) B from HE.out] at this;exact this.mono jo⟩
   .go_wp2;go_ret;exact ⟨_,rfl,M.trans K,by have:=H.out;rw [show L=Bg (a,i) B from by simpa using HE.out] at this;exact this.mono jo⟩
theorem XP (B:List BK) (p k:Nat) (c:k<B.length):(B.take (k+1)).eraseIdx p=if k=p then (B.take k).eraseIdx p else (B.take k).eraseIdx p++[B[k]]:=by
 rw [jQ c,List.eraseIdx_append];have f:(B.take k).length=k:=jx
 rw [f];by_cases a:p<k
 .rw [if_pos a,if_neg jo]
 .rw [if_neg a];have g:(B.take k).eraseIdx p=B.take k:=List.eraseIdx_of_length_le jo;rw [g];by_cases b:k=p
  .subst b;simp
  .rw [if_neg b];obtain ⟨d,i⟩:∃d,p - k=d+1:=⟨p - k - 1,jo⟩;rw [i];simp
theorem Yt (B:List BK) (v:ju) (p:Nat) (w:jj) (R:Am w v B) (hB:B.length<=8) (hp:p<B.length):
  Calls Tryz.prog 108 #[v,.int .i64 p] w (KP w (B.eraseIdx p)):=by
 obtain ⟨I,J,m,o,q⟩:=info_parts Tryz.infoBK;obtain ⟨ao,cap,rfl,C⟩:=R.open;go_enter Tryz.func108,Tryz.ntmps108;go_wp2_with (first|(at_make;refine wpList_make_own _ rfl _ _ 45 rfl w.heap.size 57 I (.agg #[.string ByteArray.empty,.int .i64 0]) 2 Tryz.underlying45 J m o _ _ _ B.length rfl rfl ?b1 ?b2 ?b3 ?b4 ?_))
 case b1=>rfl
 case b2=>rw [q];omega
 case b3=>unfold maxLen;omega
 case b4=>exact jH _
 intro K d a;have s:Aa w K:=(jD _).grown a (fun g D=>by cases D);have i:AJ w.heap.size K (.slice (some ⟨w.heap.size,0,none⟩) 0 B.length) []:=d;clear a d;generalize (Value.slice (some ⟨w.heap.size,0,none⟩) 0 B.length)=v1 at *;go_wp2;go_loopg [5,13] B.length (fun r S n wr=>Aa w wr/\∃(k:Nat),r=B.length - k/\k<=B.length/\n= .int .i64 k/\AJ w.heap.size wr S ((B.take k).eraseIdx p))
 case atStart=>exact ⟨s,0,jo,jo,rfl,by simpa using i⟩
 case round=>
  obtain ⟨t,k,hr,hk,rfl,M⟩:=hrel;have T:=t.size;have U:((B.take k).eraseIdx p).length<=8:=jX (List.length_eraseIdx_le _ _) jx;have z:=jp M;clear s i M;by_cases x:k<B.length
  .obtain ⟨g,rfl,N,O⟩:=C k x;have E:=t.cell N;have F:=t.cell O;have A:Hid ((B.take (k+1)).eraseIdx p=if k=p then (B.take k).eraseIdx p else (B.take k).eraseIdx p++[B[k]]):=XP B p k x;clear C N O;generalize B[k]=V at *;obtain ⟨l,G⟩:=V;simp only at E F;generalize (B.take k).eraseIdx p=L at *;by_cases y:k=p
   .subst y;rw [if_pos rfl] at A;go_wp2;go_roundg (B.length - (k+1))
    case measure=>omega
    case rel=>exact ⟨jq,k+1,rfl,jo,by go_num,by rw [A.out];exact World.ownsRow.alloc z.out _⟩
   .have W:((k:Int) !=(p:Int))=true:=by rw [bne_iff_ne];omega
    rw [if_neg y] at A;go_wp2_with (first|(at_builtin;refine wpList_append_own _ rfl _ _ 45 rfl w.heap.size 57 I (.agg #[.string ByteArray.empty,.int .i64 0]) 2 24 Tryz.underlying45 J m o q rfl ji _ (L).length (AC (L)) rfl ?p1a ⟨wr.heap.size+1,0,none⟩ 1 1 [.string l,.int .i64 G] rfl rfl ?da1 ?da2 ?da3 ?da4 ?da5 ?_))
    case p1a=>exact (World.ownsRow.alloc (World.ownsRow.alloc z.out _) _)
    try (case da1=>exact C8 _ _ _ _ _ js)
    case da2=>first|exact ⟨rfl,rfl⟩|exact Df rfl rfl|(intro u P;simp at P;rcases P with rfl|rfl <;>rfl)
    case da3=>(try simp only [jO,List.length_cons,List.length_nil]);unfold maxLen;omega
    case da4=>(try simp only [jO,List.length_cons,List.length_nil]);omega
    case da5=>first|omega|(simp;omega)
    intro X Q f c _;have H:Aa w Q:=((t.step_alloc _).step_alloc _).grown c (fun g D=>by have:=(World.ownsRow.lt z.out g D).1;omega);have Y:Hid (AJ w.heap.size Q X (L++[(l,G)])):=AJ.snoc (b:=(l,G)) f rfl;clear f c;go_wp2;go_roundg (B.length - (k+1))
    case measure=>omega
    case rel=>exact ⟨H,k+1,rfl,jo,by go_num,by rw [A.out];exact Y.out⟩
  .have Z:Hid ((B.take k).eraseIdx p=B.eraseIdx p):=by rw [jR jo];rfl
   clear C;go_wp2;go_ret;exact ⟨_,rfl,t,by rw [<-Z.out];exact z.out⟩
theorem RC (B:List BK) (v:ju) (p:Nat) (x:Int) (w:jj) (Y:Am w v B) (hB:B.length<=8) (hp:p<B.length):
  Calls Tryz.prog 109 #[v,.int .i64 p,.int .i64 x] w (KP w (B.set p (B[p].1,x))):=by
 obtain ⟨K,M,m,o,q⟩:=info_parts Tryz.infoBK;obtain ⟨ao,cap,rfl,N⟩:=Y.open;obtain ⟨C,I⟩:∃C,C=B.set p (B[p].1,x):=⟨_,rfl⟩;have Z:C.length=B.length:=by rw [I];simp
 have y:∀j (h:j<B.length),C[j]'jo=if j=p then (B[j].1,x) else B[j]:=by
  intro j h;subst I;rw [List.getElem_set];by_cases O:p=j
  .subst O;simp
  .rw [if_neg O,if_neg (fun e=>O e.symm)]
 rw [<-I];clear I;go_enter Tryz.func109,Tryz.ntmps109;go_wp2_with (first|(at_make;refine wpList_make_own _ rfl _ _ 45 rfl w.heap.size 57 K (.agg #[.string ByteArray.empty,.int .i64 0]) 2 Tryz.underlying45 M m o _ _ _ B.length rfl rfl ?b1 ?b2 ?b3 ?b4 ?_))
 case b1=>rfl
 case b2=>rw [q];omega
 case b3=>unfold maxLen;omega
 case b4=>exact jH _
 intro U i d;have z:Aa w U:=(jD _).grown d (fun g A=>by cases A);have l:AJ w.heap.size U (.slice (some ⟨w.heap.size,0,none⟩) 0 B.length) []:=i;clear d i;generalize (Value.slice (some ⟨w.heap.size,0,none⟩) 0 B.length)=v1 at *;go_wp2;go_loopg [7,15] B.length (fun r vL n wr=>Aa w wr/\∃(k:Nat),r=B.length - k/\k<=B.length/\n= .int .i64 k/\AJ w.heap.size wr vL (C.take k))
 case atStart=>exact ⟨z,0,jo,jo,rfl,by simpa using l⟩
 case round=>
  obtain ⟨t,k,hr,hk,rfl,V⟩:=hrel;have aa:=t.size;have ab:(C.take k).length<=8:=jx
  have D:=jp V;clear z l V;by_cases E:k<B.length
  .obtain ⟨g,rfl,W,X⟩:=N k E;have P:=t.cell W;have Q:=t.cell X;have J:Hid (C.take (k+1)=C.take k++[if k=p then (B[k].1,x) else B[k]]):=by rw [<-y k E];exact jQ jo
   clear N W X y;generalize B[k]=bk at *;obtain ⟨f,R⟩:=bk;simp only at P Q;generalize C.take k=L at *;by_cases F:k=p
   .subst F;rw [if_pos rfl] at J;go_wp2_with (first|(at_builtin;refine wpList_append_own _ rfl _ _ 45 rfl w.heap.size 57 K (.agg #[.string ByteArray.empty,.int .i64 0]) 2 24 Tryz.underlying45 M m o q rfl ji _ (L).length (AC (L)) rfl ?p1a ⟨wr.heap.size+1,0,none⟩ 1 1 [.string f,.int .i64 x] rfl rfl ?da1 ?da2 ?da3 ?da4 ?da5 ?_))
    case p1a=>exact (World.ownsRow.alloc (World.ownsRow.alloc D.out _) _)
    try (case da1=>exact C8 _ _ _ _ _ js)
    case da2=>first|exact ⟨rfl,rfl⟩|exact Df rfl rfl|(intro u G;simp at G;rcases G with rfl|rfl <;>rfl)
    case da3=>(try simp only [jO,List.length_cons,List.length_nil]);unfold maxLen;omega
    case da4=>(try simp only [jO,List.length_cons,List.length_nil]);omega
    case da5=>first|omega|(simp;omega)
    intro S H c a _;have s:Aa w H:=((t.step_alloc _).step_alloc _).grown a (fun g A=>by have:=(World.ownsRow.lt D.out g A).1;omega);have T:Hid (AJ w.heap.size H S (L++[(f,x)])):=AJ.snoc (b:=(f,x)) c rfl;clear c a;go_wp2;go_roundg (B.length - (k+1))
    case measure=>omega
    case rel=>exact ⟨s,k+1,rfl,jo,by go_num,by rw [J.out];exact T.out⟩
   .have ac:((k:Int)==(p:Int))=false:=by rw [jI];omega
    rw [if_neg F] at J;go_wp2_with (first|(at_builtin;refine wpList_append_own _ rfl _ _ 45 rfl w.heap.size 57 K (.agg #[.string ByteArray.empty,.int .i64 0]) 2 24 Tryz.underlying45 M m o q rfl ji _ (L).length (AC (L)) rfl ?p1b ⟨wr.heap.size+1,0,none⟩ 1 1 [.string f,.int .i64 R] rfl rfl ?db1 ?db2 ?db3 ?db4 ?db5 ?_))
    case p1b=>exact (World.ownsRow.alloc (World.ownsRow.alloc D.out _) _)
    try (case db1=>exact C8 _ _ _ _ _ js)
    case db2=>first|exact ⟨rfl,rfl⟩|exact Df rfl rfl|(intro u G;simp at G;rcases G with rfl|rfl <;>rfl)
    case db3=>(try simp only [jO,List.length_cons,List.length_nil]);unfold maxLen;omega
    case db4=>(try simp only [jO,List.length_cons,List.length_nil]);omega
    case db5=>first|omega|(simp;omega)
    intro S H c a _;have s:Aa w H:=((t.step_alloc _).step_alloc _).grown a (fun g A=>by have:=(World.ownsRow.lt D.out g A).1;omega);have T:Hid (AJ w.heap.size H S (L++[(f,R)])):=AJ.snoc (b:=(f,R)) c rfl;clear c a;go_wp2;go_roundg (B.length - (k+1))
    case measure=>omega
    case rel=>exact ⟨s,k+1,rfl,jo,by go_num,by rw [J.out];exact T.out⟩
  .have HE:Hid (C.take k=C):=jR jo;clear N;go_wp2;go_ret;exact ⟨_,rfl,t,by rw [<-HE.out];exact D.out⟩
theorem XT (c:BinOp) (a b:Int) (h:c= .xor\/c= .or):0<=bits c .u64 a b/\bits c .u64 a b<18446744073709551616:=by
 rcases h with rfl|rfl
 .show 0<=IntKind.u64.wrap _/\IntKind.u64.wrap _<_;rw [IntKind.wrap_u64];omega
 .show 0<=IntKind.u64.wrap _/\IntKind.u64.wrap _<_;rw [IntKind.wrap_u64];omega
theorem He (key:jt) (l:UInt8) (n:jr) (t:jt):0<=Al key l n t/\Al key l n t<18446744073709551616:=XT _ _ _ (Or.inl rfl)
theorem Kt (h m:Int) (a:1<=m):0<=Cv h m/\Cv h m<m:=by
 rw [Cv,if_neg jo];exact ⟨Int.emod_nonneg _ jo,Int.emod_lt_of_pos _ jo⟩
theorem Kp (h m:Int) (w:jj) (g:0<=h) (i:h<18446744073709551616) (k:m<=65536) (c:0<=m):
  Calls Tryz.prog 176 #[.int .u64 h,.int .i64 m] w fun e w'=>e= .returned (.int .i64 (Cv h m))/\w=w':=by
 by_cases a:m<1
 .have b:Hid (Cv h m=0):=by show Cv h m=0;rw [Cv,if_pos a]
  generalize Cv h m=X at *;go_enter Tryz.func176,Tryz.ntmps176;go_wp2;go_ret;exact ⟨BO b.out.symm,rfl⟩
 .have b:Hid (Cv h m=h % m):=by show Cv h m=h % m;rw [Cv,if_neg a]
  have d:=Int.emod_nonneg h (show m≠0 by omega);have f:=Int.emod_lt_of_pos h (show 0<m by omega);generalize Cv h m=X at *;go_enter Tryz.func176,Tryz.ntmps176;go_wp2;go_ret;exact ⟨BO b.out.symm,rfl⟩
def Bf (l:List EI):List Value:=l.flatMap fun b=>[.int .u64 b.1,.int .i64 b.2]
theorem Ps (l:List EI):(Bf l).length=l.length * 2:=by
 induction l with
 |nil=>rfl
 |cons b l ih=>simp only [Bf,List.flatMap_cons,jO,List.length_cons,List.length_nil] at ih |-;omega
theorem JZ (l:List EI) (j:Nat) (h:j<l.length):(Bf l)[j * 2]?=some (.int .u64 l[j].1)/\(Bf l)[j * 2+1]?=some (.int .i64 l[j].2):=by
 induction l generalizing j with
 |nil=>simp at h
 |cons b l ih=>
  cases j with
  |zero=>simp [Bf]
  |succ j=>
   obtain ⟨a,c⟩:=ih j (by simpa using h);have d:(j+1) * 2=j * 2+1+1:=jo
   rw [d];simp only [Bf,List.flatMap_cons,List.cons_append,List.nil_append,List.getElem?_cons_succ] at a c |-;exact ⟨a,c⟩
theorem Sg (L:List EI) (b:EI):Bf (L++[b])=Bf L++[.int .u64 b.1,.int .i64 b.2]:=by simp [Bf]
def AR (w:jj) (v:ju) (l:List EI):Prop:=Ap w v l.length (Bf l)
theorem AR.later {a w:jj} {v:ju} {l:List EI} (h:AR a v l) (k:Aa a w):AR w v l:=Ap.later h k
theorem AR.open {w:jj} {v:ju} {B:List EI} (h:AR w v B):∃b cap,v= .slice b B.length cap/\∀j (a:j<B.length),∃g,b=some ⟨g,0,none⟩/\w.cell? ⟨g,j * 2,none⟩=some (.int .u64 B[j].1)/\w.cell? ⟨g,j * 2+1,none⟩=some (.int .i64 B[j].2):=by
 rcases h with ⟨d,f,_⟩|⟨g,cap,i,k,l,c⟩
 .exact ⟨none,0,by rw [d,f],fun j a=>by omega⟩
 .exact ⟨_,cap,i,fun j a=>⟨g,rfl,c _ _ (JZ B j a).1,c _ _ (JZ B j a).2⟩⟩
def AS (base:Nat) (w:jj) (v:ju) (B:List EI):Prop:=w.ownsRow base 76 2 v B.length (Bf B)
theorem AS.ents {base:Nat} {w:jj} {v:ju} {B:List EI} (h:AS base w v B):AR w v B:=Ap.of_owns h
theorem AS.snoc {base:Nat} {w:jj} {v:ju} {L:List EI} {b:EI} {n:Nat} (h:w.ownsRow base 76 2 v n (Bf L++[.int .u64 b.1,.int .i64 b.2])) (a:n=L.length+1):AS base w v (L++[b]):=by
 unfold AS;rw [Sg,jO];subst a;exact h
def Hj (w:jj) (v:ju) (l:List Int):Prop:=Ap w v l.length (l.map (Value.int .i64))
theorem Hj.open {w:jj} {v:ju} {l:List Int} (h:Hj w v l):∃b cap,v= .slice b l.length cap/\∀j (a:j<l.length),∃g,b=some ⟨g,0,none⟩/\w.cell? ⟨g,j,none⟩=some (.int .i64 l[j]):=by
 rcases h with ⟨c,d,_⟩|⟨g,cap,f,k,m,i⟩
 .exact ⟨none,0,by rw [c,d],fun j a=>by omega⟩
 .exact ⟨_,cap,f,fun j a=>⟨g,rfl,i j _ (by simp [a])⟩⟩
theorem OF {E:List EI} {h:Int} {k:Nat} (b:k<E.length) (d:h<=E[k].1) (a:∀j (c:j<E.length),j<k->¬h<=E[j].1):A8 E h=k:=by
 have:E.findIdx (fun e=>h<=e.1)=k:=by
  rw [List.findIdx_eq b];exact ⟨by simpa using d,fun j c=>by simpa using a j jo c⟩
 rw [A8,this,if_pos b]
theorem Nx {E:List EI} {h:Int} (a:∀j (c:j<E.length),¬h<=E[j].1):A8 E h=0:=by
 rw [A8,if_neg];intro b;have:=List.findIdx_getElem (p:=fun e:EI=>decide (h<=e.1)) (w:=b);exact a _ b (by simpa using this)
def D9 (w:jj) (x:Nat) (e:Ending) (w':jj):Prop:=e= .returned (.int .i64 (x:Int))/\Aa w w'
theorem Is (E:List EI) (v:ju) (h:Int) (w:jj) (t:AR w v E) (D:E.length<=65536):
  Calls Tryz.prog 190 #[v,.int .u64 h] w (D9 w (A8 E h)):=by
 obtain ⟨F,cap,rfl,l⟩:=t.open;obtain ⟨X,m⟩:∃X,X=A8 E h:=⟨_,rfl⟩;have HX:=jp m;rw [<-m];clear m;go_enter Tryz.func190,Tryz.ntmps190;go_wp2;go_loopg [9] E.length (fun r n wr=>Aa w wr/\∃k:Nat,r=E.length - k/\k<=E.length/\n= .int .i64 k/\∀j (f:j<E.length),j<k->¬h<=E[j].1)
 case atStart=>exact ⟨jD _,0,jo,jo,rfl,fun j _ h=>by omega⟩
 case round=>
  obtain ⟨p,k,G,H,rfl,c⟩:=hrel;have o:=jp c;clear c;by_cases i:k<E.length
  .obtain ⟨g,rfl,q,s⟩:=l k i;have u:=p.cell q;have x:=p.cell s;clear l q s;by_cases b:h<=E[k].1
   .have a:Hid (X=k):=by show X=k;rw [HX.out];exact OF i b o.out
    have y:decide (E[k].1>=h)=true:=jL b;generalize E[k].1=z at *;generalize E[k].2=A at *;go_wp2;go_ret;exact ⟨BO (by rw [a.out]),jq⟩
   .have d:Hid (∀j (f:j<E.length),j<k+1->¬h<=E[j].1):=fun j f B=>by
     by_cases C:j=k
     .subst C;exact b
     .exact o.out j f jo
    have y:decide (E[k].1>=h)=false:=jK b
    generalize E[k].1=z at *
    generalize E[k].2=A at *
    go_wp2
    go_roundg (E.length - (k+1))
    case measure=>omega
    case rel=>exact ⟨jq,k+1,rfl,jo,by go_num,d.out⟩
  .have a:Hid (X=0):=by show X=0;rw [HX.out];exact Nx (fun j f=>o.out j f jo)
   clear l;go_wp2;go_ret;exact ⟨BO (by rw [a.out];rfl),jq⟩
theorem Qe (R:List Int) (v:ju) (w:jj) (q:Hj w v R) (t:R.length<=65536):
  Calls Tryz.prog 177 #[v] w (J0 w (C1 R)):=by
 obtain ⟨u,cap,rfl,i⟩:=q.open;obtain ⟨X,l⟩:∃X,X=C1 R:=⟨_,rfl⟩;have HX:=jp l;rw [<-l];clear l;go_enter Tryz.func177,Tryz.ntmps177;go_wp2;go_loopg [3,4,9] R.length (fun r b m n wr=>w=wr/\∃k:Nat,r=R.length - k/\k<=R.length/\n= .int .i64 k/\b= .int .i64 (A5 R k).1/\m= .int .i64 (A5 R k).2)
 case atStart=>exact ⟨rfl,0,jo,jo,rfl,rfl,rfl⟩
 case round=>
  obtain ⟨rfl,k,x,y,rfl,rfl,rfl⟩:=hrel;by_cases c:k<R.length
  .obtain ⟨g,rfl,z⟩:=i k c
   have a:Hid (A5 R (k+1)=if (A5 R k).2<R[k] then ((k:Int),R[k]) else A5 R k):=by
    show A5 R (k+1)=_;rw [A5,jV,jG c];rfl
   clear i;generalize R[k]=o at *;generalize A5 R k=b at *;obtain ⟨A,p⟩:=b;simp only at a;by_cases f:p<o
   .rw [if_pos f] at a;have s:decide (o>p)=true:=jL f;go_wp2;go_roundg (R.length - (k+1))
    case measure=>omega
    case rel=>exact ⟨rfl,k+1,rfl,jo,by go_num,by rw [a.out],by rw [a.out]⟩
   .rw [if_neg f] at a;have s:decide (o>p)=false:=jK f;go_wp2;go_roundg (R.length - (k+1))
    case measure=>omega
    case rel=>exact ⟨rfl,k+1,rfl,jo,by go_num,by rw [a.out],by rw [a.out]⟩
  .have d:Hid (X=(A5 R k).1):=by
    show X=_;rw [HX.out,C1,show k=R.length from by omega]
   clear i
   generalize A5 R k=b at *
   go_wp2
   go_ret
   exact ⟨BO d.out.symm,jq⟩
theorem KB {P:Program} {k:Array Oper} {o:Oper} {a:Act} {w:jj} {K:Act->World->Prop} {Q:Exit->Act->World->Prop} {E:Prop}
  (C:o.guard=none) (s x:Operand) (t:TypeId) (r:o.op=Op.call {callee:=Callee.builtin Builtin.append,args:=#[s,x],argTypes:=#[t,t]})
  (base:Nat) (e:TypeId) (i:TypeInfo) (z:ju) (b f:Nat) (D:P.underlying t=some (.slice e)) (F:P.info? e=some i) (G:i.zero=some z) (H:i.size=b) (I:i.bytes=f) (J:z.cells.size=b) (L:0<b)
  (v:ju) (n:Nat) (y:List Value) (M:a.eval s=v) (l:w.ownsRow base e b v n y)
  (A:Addr) (m c:Nat) (d:List Value) (hx:a.eval x= .slice (some A) m c) (N:d.length=m * b) (O:∀j u,d[j]?=some u->w.cell? (A.add j)=some u) (B:∀u∈d,u.oneCell'=true)
  (R:n+m<=maxLen) (S:(n+m) * f<=140737488355328) (g:base<=w.heap.size)
  (T:∀q w',w'.ownsRow base e b q (n+m) (y++d)->w.grownBy w' v.ownBlock->K (a.put o.dst q) w'):
  if Region.wanted o (yielded k a.tmps)=true then Oper.wp P o a w K Q else E:=by
 have U:Region.wanted o (yielded k a.tmps)=true:=by simp [Region.wanted,C]
 rw [if_pos U];obtain ⟨q,w',p,V,W,_⟩:=run_append_own (P:=P) w base t o.type e i z b f D F G H I J L v n y l A m c d N O B R S g;unfold Oper.wp;simp [execOp,r,resolve,invoke,builtin,M,hx,p,Result.andThen];exact T q w' V W
theorem VN {S:List Int} {y:Int×Int} {k:Nat} (c:k<S.length) (a:S.getD (A0 S.length y k) 0<0) (b:∀i,i<k->¬S.getD (A0 S.length y i) 0<0):EF S y=some (A0 S.length y k):=by
 rw [EF,List.find?_eq_some_iff_getElem];refine ⟨by simpa using a,k,by simpa using c,js,fun j d=>?_⟩;simpa using b j d
theorem VY {S:List Int} {y:Int×Int} (a:∀i,i<S.length->¬S.getD (A0 S.length y i) 0<0):EF S y=none:=by
 rw [EF,List.find?_eq_none];intro x hx;obtain ⟨i,b,rfl⟩:=List.mem_map.1 hx;simpa using a i (by simpa using b)
theorem K9 {n:Nat} (y:Int×Int) (i:Nat) (a:0<n):A0 n y i<n:=by
 unfold A0;have b:=Int.emod_nonneg (y.1+i * y.2) (show (n:Int)≠0 by omega);have c:=Int.emod_lt_of_pos (y.1+i * y.2) (show (0:Int)<n by omega);omega
def BF (S:List Int):List EI:=S.map fun o=>(0,o)
theorem Gp (S:List Int):(BF S).length=S.length:=by simp [BF]
def Hr:Option Nat->Int
 |some k=>k
 |none=> -1
def VK (w:jj) (x:Option Nat) (e:Ending) (w':jj):Prop:=e= .returned (.int .i64 (Hr x))/\Aa w w'
theorem VI (S:List Int) (v:ju) (y:Int×Int) (w:jj) (H:AR w v (BF S)) (O:S.length<=300) (x:0<=y.1) (z:y.1<=300) (l:0<=y.2) (s:y.2<=300):
  Calls Tryz.prog 141 #[v,.agg #[.int .i64 y.1,.int .i64 y.2]] w (VK w (EF S y)):=by
 obtain ⟨P,cap,rfl,A⟩:=H.open;rw [Gp];obtain ⟨X,B⟩:∃X,X=EF S y:=⟨_,rfl⟩;have HX:=jp B;rw [<-B];clear B;obtain ⟨a,b⟩:=y;simp only at x z l s |-;go_enter Tryz.func141,Tryz.ntmps141;go_wp2;obtain ⟨q,c⟩:∃q,q=w.alloc (.cells #[.int .i64 a,.int .i64 b] 178):=⟨_,rfl⟩;have Q:q.cell? ⟨w.heap.size,0,none⟩=some (.int .i64 a):=by rw [c];simp
 have R:q.cell? ⟨w.heap.size,1,none⟩=some (.int .i64 b):=by rw [c];simp
 have m:Aa w q:=by rw [c];exact (jD w).step_alloc _
 rw [<-c];clear c;go_loopg [9] S.length (fun r n wr=>q=wr/\∃k:Nat,r=S.length - k/\k<=S.length/\n= .int .i64 k/\∀i,i<k->¬S.getD (A0 S.length (a,b) i) 0<0)
 case atStart=>exact ⟨rfl,0,jo,jo,rfl,fun j h=>by omega⟩
 case round=>
  obtain ⟨rfl,k,T,U,rfl,f⟩:=hrel;have C:=jp f;clear f;by_cases D:k<S.length
  .have I:0<=(k:Int) * b:=Int.mul_nonneg jo l;have J:(k:Int) * b<=300 * 300:=Int.mul_le_mul jo s l jo;have o:=K9 (a,b) k (show 0<S.length by omega)
   have V:(a+(k:Int) * b) % (S.length:Int)=((A0 S.length (a,b) k:Nat):Int):=by
    have:=Int.emod_nonneg (a+(k:Int) * b) (show (S.length:Int)≠0 by omega);exact (Int.toNat_of_nonneg this).symm
   obtain ⟨g,rfl,K,F⟩:=A (A0 S.length (a,b) k) (by rw [Gp];exact o);have t:=m.cell F
   have u:(BF S)[A0 S.length (a,b) k]'(by rw [Gp];exact o)=(0,S.getD (A0 S.length (a,b) k) 0):=by
    simp [BF,List.getD_eq_getElem?_getD,o]
   rw [u] at t;simp only at t;clear A K F u;by_cases G:S.getD (A0 S.length (a,b) k) 0<0
   .have d:Hid (Hr X=((A0 S.length (a,b) k:Nat):Int)):=by
     show Hr X=_;rw [HX.out,VN D G C.out];rfl
    generalize S.getD (A0 S.length (a,b) k) 0=L at *
    generalize A0 S.length (a,b) k=j at *
    have E:((S.length:Int)==0)=false:=by rw [jI];omega
    go_wp2
    go_ret
    exact ⟨BO d.out.symm,m⟩
   .have p:Hid (∀i,i<k+1->¬S.getD (A0 S.length (a,b) i) 0<0):=fun i M=>by
     by_cases N:i=k
     .subst N;exact G
     .exact C.out i jo
    generalize S.getD (A0 S.length (a,b) k) 0=L at *
    generalize A0 S.length (a,b) k=j at *
    have E:((S.length:Int)==0)=false:=by rw [jI];omega
    go_wp2
    go_roundg (S.length - (k+1))
    case measure=>omega
    case rel=>exact ⟨rfl,k+1,rfl,jo,by go_num,p.out⟩
  .have d:Hid (Hr X= -1):=by
    show Hr X= -1;rw [HX.out,VY (fun i M=>C.out i jo)];rfl
   clear A
   go_wp2
   go_ret
   exact ⟨BO d.out.symm,m⟩
end Go.Proofs.YtpapdkhjdelfcaaGreat
