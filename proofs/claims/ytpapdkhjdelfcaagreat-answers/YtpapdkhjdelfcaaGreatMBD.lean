import Derived.Test.YtpapdkhjdelfcaaGreatMBC
import Derived.Deep.QuietTactic
import Derived.BigQuiet
import Derived.Deep.RegionWith
namespace Go.Proofs.YtpapdkhjdelfcaaGreat
open Go.RowKit
set_option maxRecDepth 100000
set_option maxHeartbeats 4000000
def DJ (m:Int) (B:List BK):List Int:=if As B<1 then List.replicate B.length 0 else CJ m B
theorem Uw (R:List Int) (n:Nat):((A5 R n).1= -1/\(A5 R n).2= -1)\/∃k:Nat,k<n/\(A5 R n).1=k/\(A5 R n).2=R.getD k 0/\0<=R.getD k 0:=by
 induction n with
 |zero=>exact Or.inl ⟨rfl,rfl⟩
 |succ n ih=>
  simp only [A5];split
  .rename_i a;refine Or.inr ⟨n,jo,rfl,rfl,?_⟩;have:=(KT R n).2.1;omega
  .rcases ih with h|⟨k,c,b⟩
   .exact Or.inl h
   .exact Or.inr ⟨k,jo,b⟩
theorem Sw {m a W:Int} (c:0<=m) (d:m<=300) (b:0<=a) (f:a<=6) (n:0<W):∃q x y:Int,q=m * a / W/\x=m * a/\(wrap64 (m * a)=x/\IntKind.i64.wrap (m * a)=x)/\(wrap64 (q * W)=y/\IntKind.i64.wrap (q * W)=y)/\(wrap64 (x.tdiv W)=q/\IntKind.i64.wrap (x.tdiv W)=q)/\(wrap64 (x - y)=m * a % W/\IntKind.i64.wrap (x - y)=m * a % W)/\0<=q/\q<=1800:=by
 have g:0<=m * a:=Int.mul_nonneg c b;have o:m * a<=300 * 6:=Int.mul_le_mul d f b jo;have i:0<=m * a / W:=Int.ediv_nonneg g jo;have p:m * a / W<=m * a:=Int.ediv_le_self _ g;have r:m * a / W * W<=m * a:=Int.ediv_mul_le _ jo;have s:0<=m * a / W * W:=Int.mul_nonneg i jo;have k:(m * a).tdiv W=m * a / W:=Int.tdiv_eq_ediv_of_nonneg g;have l:m * a % W=m * a - m * a / W * W:=by have:=Int.mul_ediv_add_emod (m * a) W;rw [Int.mul_comm W] at this;omega
 refine ⟨m * a / W,m * a,m * a / W * W,rfl,rfl,?_⟩;rw [k,l];generalize m * a / W * W=y at *;generalize m * a / W=z at *;generalize m * a=x at *;unfold wrap64;simp only [IntKind.wrap_i64];omega
theorem RZ (M:Int) (B:List BK) (d:1<=As B):(Bi M B).sum<=M/\(M - (Bi M B).sum).toNat<=(CF M B).countP (fun x=>decide (0<x)):=by
 have c:=K7 M (As B) B;rw [LY] at c
 have f := Me (As B) (CF M B) (by
   intro x hx
   obtain ⟨b, g, rfl⟩ := List.mem_map.1 hx
   exact ⟨Int.emod_nonneg _ jo, Int.emod_lt_of_pos _ jo⟩)
 have i:M * As B=As B * (Bi M B).sum+(CF M B).sum:=c;have k:As B * (M - (Bi M B).sum)=(CF M B).sum:=by rw [Int.mul_sub,Int.mul_comm (As B) M];omega
 have l:0<=M - (Bi M B).sum:=by
  rcases Int.lt_or_le (M - (Bi M B).sum) 0 with h|h
  .have:=Int.mul_neg_of_pos_of_neg (show 0<As B by omega) h;omega
  .exact h
 have m:M - (Bi M B).sum<=((CF M B).countP fun x=>decide (0<x):Nat):=by
  refine Int.le_of_mul_le_mul_left (a:=As B) ?_ jo;omega
 exact ⟨jo,jo⟩
theorem Qn {t:Nat} {O R X:List Int} {k:Nat} (d:C1 R=(k:Int)) (a:k<O.length) (b:k<R.length) (f:0<R[k]) (c:CI (t+1) O R=X) (i:t+1<=R.countP (fun x=>decide (0<x))):CI t (O.set k (O[k]+1)) (R.set k (-1))=X/\t<=(R.set k (-1)).countP (fun x=>decide (0<x)):=by
 rw [CI,d,if_neg jo,Int.toNat_natCast,jV,jG a] at c;refine ⟨c,?_⟩;have g:decide (0<R[k])=true:=jL f;rw [List.countP_set b,g];simp;omega
theorem BS.made {base:Nat} {w:jj} {g n:Nat} (h:w.ownsRow base 3 1 (.slice (some ⟨g,0,none⟩) n n) n (madeCells #[Value.int .i64 0] n).toList):BS base w (sl g (List.replicate n (0:Int)).length n) (List.replicate n 0):=by
 unfold BS sl;rw [List.length_replicate,List.map_replicate,<-toList_madeCells_one];exact h
def T9 (w:jj) (B:List BK) (m:Int) (a b:Nat) (r:Nat) (n i:ju) (wr:jj):Prop:=Aa w wr/\∃(k:Nat) (O R:List Int) (s:Int),r=B.length - k/\k<=B.length/\i= .int .i64 k/\n= .int .i64 s/\Cj w.heap.size a b B.length B.length wr O R/\O.length=B.length/\R.length=B.length/\
 O.take k=(Bi m B).take k/\R.take k=(CF m B).take k/\s=((Bi m B).take k).sum/\0<=s/\s<=1800 * k/\∀x∈O,0<=x/\x<=1800
def N5 (w:jj) (B:List BK) (m:Int) (X:List Int) (a b:Nat) (r:Nat) (n:ju) (wr:jj):Prop:=Aa w wr/\∃(O R:List Int) (s:Int),r=(m - s).toNat/\0<=s/\s<=m/\n= .int .i64 s/\Cj w.heap.size a b B.length B.length wr O R/\O.length=B.length/\R.length=B.length/\CI (m - s).toNat O R=X/\(m - s).toNat<=R.countP (fun x=>decide (0<x))/\∀x∈O,0<=x/\x<=2100 - (m - s)
theorem Ug (B:List BK) (v:ju) (m:Int) (w:jj) (hP:Am w v B) (hB:AL B) (bb:0<=m) (bc:m<=300):
  Calls Tryz.prog 188 #[v,.int .i64 m] w (Nq w (DJ m B)):=by
 obtain ⟨i0,hi,am,an,ap⟩:=info_parts Tryz.infoInt;obtain ⟨h8,H⟩:=hB;obtain ⟨ao,cap,rfl,hc⟩:=hP.open;obtain ⟨W,hW⟩:∃W,W=As B:=⟨_,rfl⟩;have HW:=jp hW;obtain ⟨X,hX⟩:∃X,X=DJ m B:=⟨_,rfl⟩;rw [<-hX];have HX:=jp hX;clear hW hX;go_enter Tryz.func188,Tryz.ntmps188;go_wp2;go_loopg [5,6] B.length (fun r s n wr=>w=wr/\∃k:Nat,r=B.length - k/\k<=B.length/\n= .int .i64 k/\s= .int .i64 (As (B.take k)))
 case atStart=>exact ⟨rfl,0,jo,jo,rfl,rfl⟩
 case round=>
  obtain ⟨rfl,k,hr,hk,rfl,rfl⟩:=hrel;have aq:=Kq B (fun b P=>(H b P).2.2) k;have bd:k<=8:=jo
  by_cases f:k<B.length
  .obtain ⟨g,rfl,c0,c1⟩:=hc k f;have HS:Hid (As (B.take (k+1))=As (B.take k)+B[k].2):=Lc B k f;have hw:=(H _ (jJ f)).2.2;clear hc;generalize B[k].1=bv at *;generalize B[k].2=wk at *;generalize As (B.take k)=sk at *;obtain ⟨ar,au⟩:=hw;obtain ⟨ab,S⟩:=aq;go_wp2;go_roundg (B.length - (k+1))
   case measure=>omega
   case rel=>exact ⟨rfl,k+1,rfl,jo,by go_num,by rw [HS.out]⟩
  .have HE:As (B.take k)=W:=by rw [jR jo];exact HW.out.symm
   rw [HE] at aq |-;clear HE;have bw:B.length<=8:=h8;go_wp2_with (first|(at_make;refine wpList_make_full _ rfl _ _ 116 rfl w.heap.size 3 i0 (.int .i64 0) 1 Tryz.underlying116 hi am an _ _ _ _ B.length rfl rfl rfl rfl ?b2 ?b3 ?b4 ?_))
   case b2=>first|omega|(rw [ap];omega)
   case b3=>unfold maxLen;omega
   case b4=>exact jH _
   intro w1 D av;have ab:Aa w w1:=(jD _).grown av (fun g Y=>by cases Y);have aw:w.heap.size<w1.heap.size:=(World.ownsRow.lt D _ rfl).2;have ax:=BS.made D;clear av D;go_wp2_with (first|(at_make;refine wpList_make_full _ rfl _ _ 116 rfl w.heap.size 3 i0 (.int .i64 0) 1 Tryz.underlying116 hi am an _ _ _ _ B.length rfl rfl rfl rfl ?c2 ?c3 ?c4 ?_))
   case c2=>first|omega|(rw [ap];omega)
   case c3=>unfold maxLen;omega
   case c4=>omega
   intro w2 I ay;have S:Aa w1 w2:=(jD _).grown ay (fun g Y=>by cases Y);have az:=BS.made I;have T:Cj w.heap.size w.heap.size w1.heap.size B.length B.length w2 (List.replicate B.length 0) (List.replicate B.length 0):=⟨ax.later S,az,jo⟩;have ac:Aa w w2:=ab.trans S;clear ay I ax az ab S aw;generalize w1.heap.size=F at *;generalize ad:w.heap.size=E at *;by_cases ae:0<W
   .have be:decide (W>0)=true:=jL ae;have af:Hid (X=CJ m B):=by show X=_;rw [HX.out,DJ,if_neg (by rw [<-HW.out];omega)]
    go_wp2;go_loopg [9,10] B.length (T9 w B m E F)
    case atStart=>exact ⟨ac,0,_,_,0,jo,jo,rfl,rfl,by rw [ad];exact T,js,js,js,js,js,jo,jo,fun x hx=>by have:=List.eq_of_mem_replicate hx;omega⟩
    case round=>
     clear T ac;obtain ⟨P,k,O,R,s,hr,hk,rfl,rfl,J,o,C,hO,hR,hs,ag,bf,c⟩:=hrel;have bd:k<=8:=jo
     by_cases f:k<B.length
     .obtain ⟨g,rfl,c0,c1⟩:=hc k f;have bg:=P.cell c1;obtain ⟨ar,au⟩:=(H _ (jJ f)).2.2;obtain ⟨q,x,y,hq,hx,⟨m1,m2⟩,⟨y1,y2⟩,⟨q1,q2⟩,⟨z1,z2⟩,bx,bz⟩:=Sw bb bc ar au ae
      have HA:Hid ((Bi m B).take (k+1)=(Bi m B).take k++[q]):=by
       show List.take _ _=_;rw [jQ (by simp [Bi];exact f),hq];simp only [Bi,List.getElem_map,HW.out]
      have HB:Hid ((CF m B).take (k+1)=(CF m B).take k++[m * B[k].2 % W]):=by
       show List.take _ _=_;rw [jQ (by simp [CF];exact f)];simp only [CF,List.getElem_map,HW.out]
      clear hq hc c0 hx;generalize B[k].2=wk at *;generalize m * wk % W=z at *;have l:Hid (O.length=B.length/\R.length=B.length/\O.take k=(Bi m B).take k/\R.take k=(CF m B).take k/\s=((Bi m B).take k).sum/\∀x∈O,0<=x/\x<=1800):=⟨o,C,hO,hR,hs,c⟩;have G:=J.set1 k q;have d1:∃u,wr.cell? ⟨E,k,none⟩=some u:=⟨_,(World.ownsRow.cellAt J.1 k jo).trans (by rw [List.getElem?_map,jG jo];rfl)⟩;obtain ⟨u1,d1⟩:=d1;have e1:=World.ownsRow.frozenAt J.1 k;clear J o C hO hR hs c;have b0:(W==0)=false:=by rw [jI];omega
      go_wp2_with fail;have a0:Aa w (wr.setCell ⟨E,k,none⟩ (.int .i64 q)):=P.step_set (by rw [ad];exact jH _) _;have f1:(wr.setCell ⟨E,k,none⟩ (.int .i64 q)).cell? ⟨E,k,none⟩=some (.int .i64 q):=Bc d1;have b2:=a0.cell c1;have d2:∃u,(wr.setCell ⟨E,k,none⟩ (.int .i64 q)).cell? ⟨F,k,none⟩=some u:=⟨_,(World.ownsRow.cellAt G.2.1 k (by have:=l.out.2.1;omega)).trans (by rw [List.getElem?_map,jG (by have:=l.out.2.1;omega)];rfl)⟩;obtain ⟨u2,d2⟩:=d2;have e2:=World.ownsRow.frozenAt G.2.1 k;have bh:F≠E:=G.2.2.symm;have bi:=jp G;have ah:w.heap.size<=F:=(World.ownsRow.lt G.2.1 F rfl).1;clear G d1 e1 P bg m1;generalize wr.setCell ⟨E,k,none⟩ (.int .i64 q)=wq at *;go_region_with fail
      all_goals
       go_wp2;go_roundg (B.length - (k+1))
       case measure=>omega
       case rel=>
        refine ⟨Aa.trans (a0.step_set (p:=⟨F,k,none⟩) ah (.int .i64 z)) jq,k+1,O.set k q,R.set k z,s+q,rfl,jo,by go_num,by go_num,(bi.out.set2 k z).later jq,by rw [List.length_set];exact l.out.1,by rw [List.length_set];exact l.out.2.1,?_,?_,?_,jo,jo,?_⟩
        .rw [jQ (by rw [List.length_set,l.out.1];exact f),List.take_set_of_le (jH k),List.getElem_set_self,l.out.2.2.1,HA.out]
        .rw [jQ (by rw [List.length_set,l.out.2.1];exact f),List.take_set_of_le (jH k),List.getElem_set_self,l.out.2.2.2.1,HB.out]
        .rw [HA.out,l.out.2.2.2.2.1];simp
        .intro x hx;rcases List.mem_or_eq_of_mem_set hx with h|h
         .exact l.out.2.2.2.2.2 x h
         .omega
     .obtain rfl:k=B.length:=jo
      have HO:Hid (O=Bi m B):=by
       show O=_;rw [jR jo,jR (by simp [Bi])] at hO;exact hO
      have HR:Hid (R=CF m B):=by
       show R=_;rw [jR jo,jR (by simp [CF])] at hR;exact hR
      have ai:s=(Bi m B).sum:=by rw [hs,jR (by simp [Bi])]
      obtain ⟨K,L⟩:=RZ m B (by rw [<-HW.out];omega);rw [<-ai] at K L
      have H3 : Hid (N5 w B m X E F (m - s).toNat (.int .i64 s) wr) := ⟨P, O, R, s, rfl, ag, K, rfl, J, o, C, by
        rw [af.out, CJ, if_neg (by rw [<- HW.out]; omega), HO.out, HR.out, ai], by rw [HR.out]; exact L, fun x hx => ⟨(c x hx).1, by have := (c x hx).2; omega⟩⟩
      clear J o C hO hR hs c P ai K L HO HR ag bf;go_wp2;go_loopg [9] (m - s).toNat (N5 w B m X E F)
      case atStart=>exact H3.out
      case round=>
       clear H3 s;obtain ⟨P,O,R,s,hr,ag,b5,rfl,J,o,C,Y,M,c⟩:=hrel;by_cases Z:s<m
       .have bj:decide (s<m)=true:=jL Z;have HT:=jp J;have HG:Hid (CI (m - s).toNat O R=X/\(m - s).toNat<=R.countP (fun x=>decide (0<x))/\(∀x∈O,0<=x/\x<=2100 - (m - s))/\O.length=B.length):=⟨Y,M,c,o⟩;clear J Y M c o;go_wp2;generalize wr=wo at *;go_loopg [11,12] B.length (fun r kv i wx=>Aa wo wx/\∃j:Nat,r=B.length - j/\j<=B.length/\i= .int .i64 j/\kv= .int .i64 (A5 R j).1)
        case atStart=>exact ⟨jD _,0,jo,jo,rfl,rfl⟩
        case round=>
         obtain ⟨a1,j,b6,hj,rfl,rfl⟩:=hrel;have d:=HT.out.later a1;by_cases b7:j<B.length
         .have bk:decide ((j:Int)<(B.length:Int))=true:=jL jo;have a2:j<R.length:=jo
          have aj:R.getD j 0=R[j]:=by rw [jV,jG a2];rfl
          have d1:wr.cell? ⟨F,j,none⟩=some (.int .i64 R[j]):=(World.ownsRow.cellAt d.2.1 j jo).trans (by rw [List.getElem?_map,jG a2];rfl)
          have U:Hid ((A5 R (j+1)).1=if (A5 R j).2<R[j] then (j:Int) else (A5 R j).1):=by
           show (A5 R (j+1)).1=_;rw [A5,aj];split <;>rfl
          have aa:=(KT R j).2.1;rcases Uw R j with ⟨b1,b2⟩|⟨kk,b8,b1,b2,b3⟩
          .rw [b1] at U |-;rw [b2] at U;clear d b1 b2 aj aa;generalize R[j]=Q at *;by_cases hp:0<=Q
           .have ak:decide (Q>=0)=true:=jL hp;have A:Hid ((A5 R (j+1)).1=j):=by show (A5 R (j+1)).1=_;rw [U.out,if_pos jo]
            go_wp2_with fail;go_quiet (fail);go_wp2;go_roundg (B.length - (j+1))
            case measure=>omega
            case rel=>exact ⟨jq,j+1,rfl,jo,by go_num,by rw [A.out]⟩
           .have ak:decide (Q>=0)=false:=jK hp;have A:Hid ((A5 R (j+1)).1= -1):=by show (A5 R (j+1)).1=_;rw [U.out,if_neg jo]
            go_wp2_with fail;go_quiet (fail);go_wp2;go_roundg (B.length - (j+1))
            case measure=>omega
            case rel=>exact ⟨jq,j+1,rfl,jo,by go_num,by rw [A.out]⟩
          .have a3:kk<R.length:=jo
           have d2:wr.cell? ⟨F,kk,none⟩=some (.int .i64 R[kk]):=(World.ownsRow.cellAt d.2.1 kk jo).trans (by rw [List.getElem?_map,jG a3];rfl);have a4:R.getD kk 0=R[kk]:=by rw [jV,jG a3];rfl
           rw [a4] at b2 b3;rw [b1] at U |-;rw [b2] at U;clear d b1 b2 aj aa a4;generalize R[j]=Q at *;generalize R[kk]=rk at *;have N:decide ((kk:Int)<0)=false:=jK jo;have br:(kk:Int)<(B.length:Int):=jo
           by_cases hp:0<=Q
           .have ak:decide (Q>=0)=true:=jL hp;by_cases a5:rk<Q
            .have ah:decide (Q>rk)=true:=jL a5;have A:Hid ((A5 R (j+1)).1=j):=by show (A5 R (j+1)).1=_;rw [U.out,if_pos jo]
             go_wp2_with fail;go_quiet (fail);go_wp2;go_roundg (B.length - (j+1))
             case measure=>omega
             case rel=>exact ⟨jq,j+1,rfl,jo,by go_num,by rw [A.out]⟩
            .have ah:decide (Q>rk)=false:=jK a5;have A:Hid ((A5 R (j+1)).1=kk):=by show (A5 R (j+1)).1=_;rw [U.out,if_neg jo]
             go_wp2_with fail;go_quiet (fail);go_wp2;go_roundg (B.length - (j+1))
             case measure=>omega
             case rel=>exact ⟨jq,j+1,rfl,jo,by go_num,by rw [A.out]⟩
           .have ak:decide (Q>=0)=false:=jK hp;have A:Hid ((A5 R (j+1)).1=kk):=by show (A5 R (j+1)).1=_;rw [U.out,if_neg jo]
            go_wp2_with fail;go_quiet (fail);go_wp2;go_roundg (B.length - (j+1))
            case measure=>omega
            case rel=>exact ⟨jq,j+1,rfl,jo,by go_num,by rw [A.out]⟩
         .have bk:decide ((j:Int)<(B.length:Int))=false:=jK jo;obtain rfl:j=B.length:=jo
          obtain ⟨g1,g2,g3,g4⟩:=HG.out;obtain ⟨p1,p2,p3⟩:=P6 (R:=R) jo;obtain ⟨a,N⟩:=jM p1;rw [N,Int.toNat_natCast] at p2 p3;have a6:(A5 R B.length).1=(a:Int):=by rw [<-C];exact N
          have V:a<O.length:=jo
          have a7:0<R[a]:=by rw [jV,jG p2] at p3;exact p3
          obtain ⟨t,ht⟩:∃t,(m - s).toNat=t+1:=⟨(m - s).toNat - 1,jo⟩;have a8:Hid (CI t (O.set a (O[a]+1)) (R.set a (-1))=X/\t<=(R.set a (-1)).countP (fun x=>decide (0<x))):=Qn N V p2 a7 (by rw [<-ht];exact g1) (by rw [<-ht];exact g2);have bl:=g3 _ (jJ V)
          have bm:Hid (∀x∈O.set a (O[a]+1),0<=x/\x<=2100 - (m - (s+1))):=by
           intro x hx;rcases List.mem_or_eq_of_mem_set hx with h|h
           .have:=g3 x h;omega
           .omega
          have d1:wr.cell? ⟨E,a,none⟩=some (.int .i64 O[a]):=(World.ownsRow.cellAt d.1 a jo).trans (by rw [List.getElem?_map,jG V];rfl);have e1:=World.ownsRow.frozenAt d.1 a;have d2:∃u,wr.cell? ⟨F,a,none⟩=some u:=⟨_,(World.ownsRow.cellAt d.2.1 a jo).trans (by rw [List.getElem?_map,jG p2];rfl)⟩;obtain ⟨u2,d2⟩:=d2;have e2:=World.ownsRow.frozenAt d.2.1 a;have bh:=d.2.2;have a9:=(World.ownsRow.lt d.1 E rfl).1;have ba:=(World.ownsRow.lt d.2.1 F rfl).1;have bn:=jp ((d.set1 a (O[a]+1)).set2 a (-1));have bo:Hid (Aa w ((wr.setCell ⟨E,a,none⟩ (.int .i64 (O[a]+1))).setCell ⟨F,a,none⟩ (.int .i64 (-1)))):=((P.trans a1).step_set (p:=⟨E,a,none⟩) a9 _).step_set (p:=⟨F,a,none⟩) ba _;have bs:(a:Int)<(B.length:Int):=jo
          have HL:Hid ((O.set a (O[a]+1)).length=B.length/\(R.set a (-1)).length=B.length/\t=(m - (s+1)).toNat):=⟨by rw [List.length_set];exact g4,by rw [List.length_set];exact C,jo⟩;rw [a6];clear d g1 g2 g3 g4 p1 p3 N a6 a7;generalize O[a]=ok at *;clear V p2;obtain ⟨bt,bu⟩:=bl;go_wp2;go_roundg t
          case measure=>omega
          case rel=>exact ⟨bo.out,O.set a (ok+1),R.set a (-1),s+1,HL.out.2.2,jo,jo,by go_num,bn.out,HL.out.1,HL.out.2.1,by rw [<-HL.out.2.2];exact a8.out.1,by rw [<-HL.out.2.2];exact a8.out.2,bm.out⟩
       .have bj:decide (s<m)=false:=jK Z;obtain rfl:s=m:=jo
        have HE:Hid (O=X/\BS w.heap.size wr (sl E O.length B.length) O):=by
         refine ⟨?_,J.1⟩;rw [<-Y,Int.sub_self];rfl
        have bp:=jp o;clear J Y M c o C;go_wp2;go_ret;refine ⟨_,rfl,P,?_⟩;have:=HE.out.2;rw [bp.out] at this;rw [<-HE.out.1];exact this
   .have be:decide (W>0)=false:=jK ae;have af:Hid (X=List.replicate B.length 0):=by show X=_;rw [HX.out,DJ,if_pos (by rw [<-HW.out];omega)]
    go_wp2;go_loopg [9,10] 0 (fun _ n i al=>w2=al/\n= .int .i64 0/\i= .int .i64 0)
    case atStart=>exact ⟨rfl,rfl,rfl⟩
    case round=>
     obtain ⟨rfl,rfl,rfl⟩:=hrel;have bq:=jp T;clear T;go_wp2
     all_goals
      go_loopg [9] 0 (fun _ n al=>w2=al/\n= .int .i64 0)
      case atStart=>exact ⟨rfl,rfl⟩
      case round=>
       obtain ⟨rfl,rfl⟩:=hrel;go_wp2;go_ret;refine ⟨_,rfl,ac,?_⟩;rw [af.out,ad];have:=bq.out.1;rw [List.length_replicate] at this;exact this
def CG (a:List ByteArray):List EN:=a.map fun s=>(s,0,0)
theorem Kv (a:List ByteArray):(CG a).length=a.length:=by simp [CG]
theorem XC (a:List ByteArray) (k:Nat) (x:jt):Av (CG (a.set k x))=(Av (CG a)).set (k * 3) (.string x):=by
 induction a generalizing k with
 |nil=>simp [CG,Av]
 |cons s S ih=>
  cases k with
  |zero=>simp [CG,Av]
  |succ k=>
   have e:(k+1) * 3=k * 3+1+1+1:=jo
   have:=ih k;simp only [CG,Av,List.set_cons_succ,List.map_cons,List.flatMap_cons,List.cons_append,List.nil_append,e] at this |-;rw [this]
def DG (base g:Nat) (w:jj) (a:List ByteArray):Prop:=w.ownsRow base 146 3 (sl g a.length a.length) a.length (Av (CG a))
theorem UD (n:Nat) (s:jt):(madeCells #[Value.string s,.int .i64 0,.int .i64 0] (n * 3)).toList=Av (CG (List.replicate n s)):=by
 have b:(CG (List.replicate n s)).length=n:=by simp [CG]
 apply List.ext_getElem?;intro j;by_cases g:j<n * 3
 .have i:j / 3<(CG (List.replicate n s)).length:=by rw [b];omega
  obtain ⟨c,d,f⟩:=Ig (CG (List.replicate n s)) (j / 3) i;have a:(CG (List.replicate n s))[j / 3]=(s,0,0):=by simp [CG]
  rw [a] at c d f;have k:(madeCells #[Value.string s,.int .i64 0,.int .i64 0] (n * 3)).toList[j]?=some (#[Value.string s,.int .i64 0,.int .i64 0][j % 3]!):=by simp [madeCells,g]
  rw [k];rcases (show j % 3=0\/j % 3=1\/j % 3=2 by omega) with h|h|h
  .rw [h,show j=j / 3 * 3 by omega,c];rfl
  .rw [h,show j=j / 3 * 3+1 by omega,d];rfl
  .rw [h,show j=j / 3 * 3+2 by omega,f];rfl
 .rw [List.getElem?_eq_none (by simp [size_madeCells];omega),List.getElem?_eq_none (by rw [Iv,b];omega)]
theorem DG.made {base:Nat} {w:jj} {g n:Nat} (h:w.ownsRow base 146 3 (.slice (some ⟨g,0,none⟩) n n) n (madeCells #[Value.string ByteArray.empty,.int .i64 0,.int .i64 0] (n * 3)).toList):DG base g w (List.replicate n ByteArray.empty):=by
 unfold DG sl;rw [List.length_replicate,<-UD];exact h
theorem DG.later {base g:Nat} {w w':jj} {a:List ByteArray} (h:DG base g w a) (k:Aa w w'):DG base g w' a:=BG h k
theorem DG.set {base g:Nat} {w:jj} {a:List ByteArray} (h:DG base g w a) (k:Nat) (x:jt):DG base g (w.setCell ⟨g,k * 3,none⟩ (.string x)) (a.set k x):=by
 have b:=World.ownsRow.stored h (k * 3) (.string x);unfold DG;rw [XC,sl,List.length_set];exact b.1
theorem DG.cell {base g:Nat} {w:jj} {a:List ByteArray} (h:DG base g w a) {k:Nat} (b:k<a.length):w.cell? ⟨g,k * 3,none⟩=some (.string a[k])/\w.frozen? ⟨g,k * 3,none⟩=false:=by
 have c:k<(CG a).length:=by rw [Kv];exact b
 refine ⟨(World.ownsRow.cellAt h (k * 3) jo).trans ?_,World.ownsRow.frozenAt h (k * 3)⟩;rw [(Ig (CG a) k c).1];simp [CG]
def free (s:jt):Bool:=decide (s.size=0)
def emp (a:List ByteArray):Nat:=a.countP free
theorem Xh {a:List ByteArray} {k:Nat} (b:k<a.length) (d:a[k].size=0) {x:jt} (hx:x.size≠0):emp (a.set k x)+1=emp a:=by
 have c:free a[k]=true:=jL d;have f:free x=false:=jK hx;have g:0<emp a:=List.countP_pos_iff.2 ⟨_,jJ b,c⟩;unfold emp at *;rw [List.countP_set b,c,f];simp;omega
theorem Qy {a:List ByteArray} {n:Nat} (t:a.length=n) (b:∀d:Nat,2<=d->d<n->n % d≠0) (g:2<=n) (o s:Int) (k:0<=o) (c:1<=s) (f:s<n) (l:0<emp a):∃i,i<n/\∃h:A0 n (o,s) i<a.length,(a[A0 n (o,s) i]'h).size=0:=by
 obtain ⟨x,hx,m⟩:=List.countP_pos_iff.1 l;obtain ⟨v,p,rfl⟩:=List.mem_iff_getElem.1 hx;obtain ⟨i,q,e⟩:=Tc n g b o s k c f v jo;refine ⟨i,q,by rw [e];exact p,?_⟩;have r:a[v].size=0:=of_decide_eq_true m;simp only [e];exact r
theorem isEmpty_iff (s:jt):s.toList.isEmpty=true↔s.size=0:=by
 rw [ByteArray.toList_eq,List.isEmpty_iff,<-List.length_eq_zero_iff];rfl
theorem RL {n:Nat} {o s:Int} (b:0<=o) (a:o<n):((A0 n (o,s) 0:Nat):Int)=o:=by
 unfold A0;simp only [Int.natCast_zero,Int.zero_mul,Int.add_zero];rw [Int.emod_eq_of_lt b a];omega
theorem T2 {n:Nat} (c:0<n) (o s:Int) (i:Nat):((A0 n (o,s) (i+1):Nat):Int)=((A0 n (o,s) i:Nat)+s) % n:=by
 unfold A0;have a:=Int.emod_nonneg (o+(i:Int) * s) (show (n:Int)≠0 by omega);have b:=Int.emod_nonneg (o+((i+1:Nat):Int) * s) (show (n:Int)≠0 by omega);rw [Int.toNat_of_nonneg a,Int.toNat_of_nonneg b,Int.emod_add_emod];congr 1;push_cast;rw [Int.add_mul];omega
theorem Vt (m:Int) (B:List BK) (a:0<=m) (c:AL B):((DJ m B).sum=0/\∀x∈DJ m B,x=0)\/((DJ m B).sum=m/\1<=As B):=by
 unfold DJ;split
 .refine Or.inl ⟨?_,fun x hx=>List.eq_of_mem_replicate hx⟩;generalize B.length=n
  induction n with
  |zero=>rfl
  |succ n ih=>simp [List.replicate_succ]
 .exact Or.inr ⟨(Ma m B a (fun b d=>(c.2 b d).2.2.1) jo).1,jo⟩
theorem QK (m:Int) (B:List BK):(DJ m B).length=B.length:=by
 unfold DJ;split
 .simp
 .exact M4 m B jo
theorem XJ (m:Int) (B:List BK) (a:0<=m) (c:AL B):∀x∈DJ m B,0<=x:=by
 intro x hx;unfold DJ at hx;split at hx
 .have:=List.eq_of_mem_replicate hx;omega
 .have h:=Ma m B a (fun b d=>(c.2 b d).2.2.1) jo;obtain ⟨j,f,rfl⟩:=List.mem_iff_getElem.1 hx;have:=(h.2.2 j jo).1;rw [jV,jG f] at this;exact this
theorem GW:∀{L:List Int},(∀x∈L,0<=x)->(∀x∈L,x<=L.sum)/\0<=L.sum
 |[],_=>by simp
 |y::L,h=>by
  obtain ⟨a,b⟩:=GW (L:=L) (fun x hx=>h x (jW _ hx));have c:=h y List.mem_cons_self;rw [List.sum_cons];refine ⟨fun x hx=>?_,jo⟩;rcases ja.1 hx with rfl|hx
  .omega
  .have:=a x hx;omega
theorem MZ {L:List Int} (h:∀x∈L,0<=x) (k:Nat):0<=(L.take k).sum/\(L.take k).sum<=L.sum:=by
 have a:=(GW (L:=L.take k) (fun x hx=>h x (List.mem_of_mem_take hx))).2;have b:=(GW (L:=L.drop k) (fun x hx=>h x (List.mem_of_mem_drop hx))).2;have c:L.sum=(L.take k).sum+(L.drop k).sum:=by rw [<-List.sum_append,List.take_append_drop]
 omega
def IU (W:jj) (B:List BK) (b d c n:Nat) (Q:List Int) (a:List ByteArray) (wr:jj):Prop:=Aa W wr/\BS W.heap.size wr (sl b Q.length d) Q/\DG W.heap.size c wr a/\b≠c/\Q.length=B.length/\a.length=n/\(∀x∈Q,0<=x)/\(∀s∈a,I8 B s)/\Q.sum=emp a
end Go.Proofs.YtpapdkhjdelfcaaGreat
