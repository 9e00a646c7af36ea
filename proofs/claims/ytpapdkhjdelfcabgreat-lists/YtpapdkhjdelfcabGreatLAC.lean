import Derived.Test.YtpapdkhjdelfcabGreatLAB
import Derived.Deep.RegionHeldLaw
import Derived.Deep.RegionLawGrows
import Derived.Deep.Onto
namespace Go.Proofs.YtpapdkhjdelfcabGreat
open Go.RowKit
set_option maxRecDepth 100000
set_option maxHeartbeats 4000000
def Dr (B:List BK) (id:ByteArray):Int:=if Bq id B<B.length then (Bq id B:Int) else -1
theorem Qi {B:List BK} {id:ByteArray} {k:Nat} (hk:k<B.length) (he:B[k].1=id) (hall:∀j (h:j<B.length),j<k→B[j].1≠id):Bq id B=k:=by
 have hlt:Bq id B<B.length:=Lh ⟨_,jJ hk,he⟩;have hat:=Ho hlt;by_cases h1:Bq id B<k
 ·exact absurd hat (hall _ hlt h1)
 by_cases h2:k<Bq id B
 ·have:=List.not_of_lt_findIdx (p:=fun b:BK=>b.1.toList==id.toList) h2;exact absurd (FE.2 he) (by simpa using this)
 ·omega
def J9 (w:World) (B:List BK) (id:ByteArray) (e:Ending) (w':World):Prop:=e= .returned (.int .i64 (Dr B id))∧Aa w w'
theorem J8 (B:List BK) (v:Value) (id:ByteArray) (w:World) (hP:Am w v B) (hB:B.length≤9):
  Calls Tryz.prog 40 #[v,.string id] w (J9 w B id):=by
 obtain ⟨ao,cap,rfl,hc⟩:=hP.open;go_enter Tryz.func40,Tryz.ntmps40;go_wp2;go_loopg [9] B.length (fun r n wr=>Aa w wr∧∃k:Nat,r=B.length - k∧k≤B.length∧n= .int .i64 k∧∀j (h:j<B.length),j<k→B[j].1≠id)
 case atStart=>exact ⟨jD _,0,by omega,by omega,rfl,fun j _ h=>by omega⟩
 case round=>
  obtain ⟨hb,k,hr,hk,rfl,hall⟩:=hrel;have HA:Hid (∀j (h:j<B.length),j<k→B[j].1≠id):=hall;clear hall;by_cases hlt:k<B.length
  ·obtain ⟨g,rfl,c0,c1⟩:=hc k hlt;have c0':=hb.cell c0;have c1':=hb.cell c1;clear hc c0 c1;cases heq:B[k].1.toList==id.toList
   ·have hstep:Hid (∀j (h:j<B.length),j<k+1→B[j].1≠id):=fun j h hj=>by
     by_cases he:j=k
     ·subst he;intro e;rw [FE.2 e] at heq;cases heq
     ·exact HA.out j h (by omega)
    generalize B[k].1=idk at *
    generalize B[k].2=wk at *
    go_wp2
    go_roundg (B.length - (k+1))
    case measure=>omega
    case rel=>exact ⟨by solve_by_elim [jA,jB,jC,jD,jE],k+1,rfl,by omega,by go_num,hstep.out⟩
   ·have hfin:Hid (Dr B id=k):=by
     have:=Qi hlt (FE.1 heq) HA.out;show Dr B id=k;rw [Dr,this,if_pos hlt]
    generalize B[k].1=idk at *
    generalize B[k].2=wk at *
    go_wp2
    go_ret
    exact ⟨BO hfin.out.symm,by solve_by_elim [jA,jB,jC,jD,jE]⟩
  ·have hfin:Hid (Dr B id= -1):=by
    show Dr B id= -1;rw [Dr,if_neg];intro h;exact HA.out _ h (by omega) (Ho h)
   clear hc
   go_wp2
   go_ret
   exact ⟨BO hfin.out.symm,by solve_by_elim [jA,jB,jC,jD,jE]⟩
theorem Lc (B:List BK) (k:Nat) (h:k<B.length):As (B.take (k+1))=As (B.take k)+B[k].2:=by
 rw [jQ h,As,As,List.map_append,List.sum_append];simp
theorem Kq (B:List BK) (h:∀b∈B,0≤b.2∧b.2≤6) (k:Nat):0≤As (B.take k)∧As (B.take k)≤6 * k:=by
 induction k with
 |zero=>simp [As]
 |succ k ih=>
  by_cases hk:k<B.length
  ·have:=h _ (jJ hk);rw [Lc B k hk];omega
  ·rw [jR (by omega)];rw [jR (by omega)] at ih;omega
def J0 (w:World) (x:Int) (e:Ending) (w':World):Prop:=e= .returned (.int .i64 x)∧Aa w w'
theorem Mx (B:List BK) (v:Value) (w:World) (hP:Am w v B) (hB:AL B):
  Calls Tryz.prog 140 #[v] w (J0 w (As B)):=by
 obtain ⟨h8,hall⟩:=hB;obtain ⟨ao,cap,rfl,hc⟩:=hP.open;go_enter Tryz.func140,Tryz.ntmps140;go_wp2;go_loopg [3,8] B.length (fun r s n wr=>Aa w wr∧∃k:Nat,r=B.length - k∧k≤B.length∧n= .int .i64 k∧s= .int .i64 (As (B.take k)))
 case atStart=>exact ⟨jD _,0,by omega,by omega,rfl,rfl⟩
 case round=>
  obtain ⟨hb,k,hr,hk,rfl,rfl⟩:=hrel;have hbd:=Kq B (fun b hb=>(hall b hb).2.2) k;have hk8:k≤8:=by omega
  by_cases hlt:k<B.length
  ·obtain ⟨g,rfl,c0,c1⟩:=hc k hlt;have c0':=hb.cell c0;have c1':=hb.cell c1;have HS:Hid (As (B.take (k+1))=As (B.take k)+B[k].2):=Lc B k hlt;have hw:=(hall _ (jJ hlt)).2.2;clear hc c0 c1;generalize B[k].1=idk at *;generalize B[k].2=wk at *;generalize As (B.take k)=sk at *;obtain ⟨hw1,hw2⟩:=hw;obtain ⟨hb1,hb2⟩:=hbd;go_wp2;go_roundg (B.length - (k+1))
   case measure=>omega
   case rel=>exact ⟨by solve_by_elim [jA,jB,jC,jD,jE],k+1,rfl,by omega,by go_num,by rw [HS.out]⟩
  ·have HE:Hid (As (B.take k)=As B):=by rw [jR (by omega)];rfl
   clear hc hbd;go_wp2;go_ret;exact ⟨BO HE.out,by solve_by_elim [jA,jB,jC,jD,jE]⟩
theorem Ty {m:BK} {B L:List BK} {k:Nat} {laid:Bool} (hk:k<B.length) (h:L++(if laid then B.drop k else Bg m (B.drop k))=Bg m B):
  (laid=true→L++[B[k]]++B.drop (k+1)=Bg m B)∧(laid=false→AO m.1 B[k].1=true→L++[m]++[B[k]]++B.drop (k+1)=Bg m B)∧(laid=false→AO m.1 B[k].1=false→L++[B[k]]++Bg m (B.drop (k+1))=Bg m B):=by
 rw [List.drop_eq_getElem_cons hk] at h;refine ⟨fun e=>?_,fun e hl=>?_,fun e hl=>?_⟩
 ·subst e;rw [←h];simp
 ·subst e;rw [←h];simp [Bg,hl]
 ·subst e;rw [←h];simp [Bg,hl]
theorem JD {w w':World} {row:Option Nat} (h:w.grownBy w' row) {a:Addr} {v:Value} (hc:w.cell? a=some v) (hr:row≠some a.block):w'.cell? a=some v:=by
 rw [World.cell?_of_block (w:=w) (h.block a.block (World.block_lt_of_cell? w a hc) (fun e=>hr e.symm))];exact hc
theorem AJ.snoc {base:Nat} {w:World} {v:Value} {L:List BK} {b:BK} {n:Nat} (h:w.ownsRow base 75 2 v n (AC L++[.string b.1,.int .i64 b.2])) (hn:n=L.length+1):AJ base w v (L++[b]):=by
 unfold AJ;rw [Ve,jO];subst hn;exact h
theorem Wz (B:List BK) (v:Value) (m:BK) (w:World) (hP:Am w v B) (hB:B.length≤8):
  Calls Tryz.prog 41 #[v,.agg #[.string m.1,.int .i64 m.2]] w (KP w (Bg m B)):=by
 obtain ⟨i0,hi,hz0,hz1,hz2⟩:=info_parts Tryz.infoBK;obtain ⟨mid,mw⟩:=m;simp only;obtain ⟨ao,cap,rfl,hc⟩:=hP.open;go_enter Tryz.func41,Tryz.ntmps41;go_wp2_with (first|(at_make;refine wpList_make_own _ rfl _ _ 58 rfl (w.heap.size+1) 75 i0 (.agg #[.string ByteArray.empty,.int .i64 0]) 2 Tryz.underlying58 hi hz0 hz1 _ _ _ (B.length+1) rfl rfl ?b1 ?b2 ?b3 ?b4 ?_))
 case b1=>omega
 case b2=>rw [hz2];omega
 case b3=>unfold maxLen;omega
 case b4=>simp
 intro w1 hown1 hgrow1;have hb1:Aa (w.alloc (.cells #[.string mid,.int .i64 mw] 75)) w1:=(jD _).grown hgrow1 (fun g hg=>by cases hg);have hown:AJ (w.heap.size+1) w1 (.slice (some ⟨w.heap.size+1,0,none⟩) 0 (B.length+1)) []:=hown1;obtain ⟨wm,hwm⟩:∃wm,wm=w.alloc (.cells #[.string mid,.int .i64 mw] 75):=⟨_,rfl⟩;rw [←hwm] at hb1;have m0:wm.cell? ⟨w.heap.size,0,none⟩=some (.string mid):=by rw [hwm];simp
 have m1:wm.cell? ⟨w.heap.size,1,none⟩=some (.int .i64 mw):=by rw [hwm];simp
 have hwb:Aa w wm:=by rw [hwm];exact (jD w).step_alloc _
 have hsz:wm.heap.size=w.heap.size+1:=by rw [hwm];simp
 clear hgrow1 hown1 hwm;generalize (Value.slice (some ⟨w.heap.size+1,0,none⟩) 0 (B.length+1))=v1 at *;go_wp2;go_loopg [5,6,15] B.length (fun r vL vl n wr=>Aa wm wr∧∃(k:Nat) (laid:Bool) (L:List BK),r=B.length - k∧k≤B.length∧n= .int .i64 k∧vl= .bool laid∧AJ (w.heap.size+1) wr vL L∧L++(if laid then B.drop k else Bg (mid,mw) (B.drop k))=Bg (mid,mw) B)
 case atStart=>exact ⟨hb1,0,false,[],by omega,by omega,rfl,rfl,hown,by simp⟩
 case round=>
  obtain ⟨hb,k,laid,L,hr,hk,rfl,rfl,hL,heq⟩:=hrel
  have hLl:L.length≤9:=by
   have:=congrArg List.length heq;rw [Qa,jO] at this;omega
  have hwr:=hb.size;have hwl:w.heap.size<wr.heap.size:=by omega
  have n0:=hb.cell m0;have n1:=hb.cell m1;have HO:=jp hL;clear hb1 hown hL;by_cases hlt:k<B.length
  ·obtain ⟨g,rfl,c0,c1⟩:=hc k hlt;have c0':=(hwb.trans hb).cell c0;have c1':=(hwb.trans hb).cell c1;obtain ⟨s1,s2,s3⟩:=Ty hlt heq;have S1:Hid (laid=true→L++[B[k]]++B.drop (k+1)=Bg (mid,mw) B):=s1;have S2:Hid (laid=false→AO mid B[k].1=true→L++[(mid,mw)]++[B[k]]++B.drop (k+1)=Bg (mid,mw) B):=s2;have S3:Hid (laid=false→AO mid B[k].1=false→L++[B[k]]++Bg (mid,mw) (B.drop (k+1))=Bg (mid,mw) B):=s3;clear hc c0 c1 s1 s2 s3 heq;generalize B[k]=bk at *;obtain ⟨idk,wk⟩:=bk;simp only at c0' c1';cases laid
   ·cases hless:Op.bytesLess mid.toList idk.toList
    ·have HS:Hid (L++[(idk,wk)]++(if false=true then B.drop (k+1) else Bg (mid,mw) (B.drop (k+1)))=Bg (mid,mw) B):=S3.out rfl hless;clear S1 S2 S3;go_wp2_with (first|(at_builtin;refine wpList_append_own _ rfl _ _ 58 rfl (w.heap.size+1) 75 i0 (.agg #[.string ByteArray.empty,.int .i64 0]) 2 24 Tryz.underlying58 hi hz0 hz1 hz2 rfl (by decide) _ (L).length (AC (L)) rfl ?p1a ⟨wr.heap.size+1,0,none⟩ 1 1 [.string idk,.int .i64 wk] rfl rfl ?da1 ?da2 ?da3 ?da4 ?da5 ?_))
     case p1a=>exact (World.ownsRow.alloc (World.ownsRow.alloc HO.out _) _)
     try (case da1=>exact C8 _ _ _ _ _ (by simp))
     case da2=>first|exact ⟨rfl,rfl⟩|exact Df rfl rfl|(intro u hu;simp at hu;rcases hu with rfl|rfl <;>rfl)
     case da3=>(try simp only [jO,List.length_cons,List.length_nil]);unfold maxLen;omega
     case da4=>(try simp only [jO,List.length_cons,List.length_nil]);omega
     case da5=>first|omega|(simp;omega)
     intro v2 w2 hown2 hgrow2 _;have hb2:Aa wm w2:=((hb.step_alloc _).step_alloc _).grown hgrow2 (fun g hg=>by have:=(World.ownsRow.lt HO.out g hg).1;omega);have H2:Hid (AJ (w.heap.size+1) w2 v2 (L++[(idk,wk)])):=AJ.snoc (b:=(idk,wk)) hown2 rfl;clear hown2 hgrow2;go_wp2;go_roundg (B.length - (k+1))
     case measure=>omega
     case rel=>exact ⟨hb2,k+1,false,_,rfl,by omega,by go_num,rfl,H2.out,HS.out⟩
    ·have HS:Hid (L++[(mid,mw)]++[(idk,wk)]++(if true=true then B.drop (k+1) else Bg (mid,mw) (B.drop (k+1)))=Bg (mid,mw) B):=S2.out rfl hless;clear S1 S2 S3;go_wp2_with (first|(at_builtin;refine wpList_append_own _ rfl _ _ 58 rfl (w.heap.size+1) 75 i0 (.agg #[.string ByteArray.empty,.int .i64 0]) 2 24 Tryz.underlying58 hi hz0 hz1 hz2 rfl (by decide) _ (L).length (AC (L)) rfl ?p1b ⟨wr.heap.size+1,0,none⟩ 1 1 [.string mid,.int .i64 mw] rfl rfl ?db1 ?db2 ?db3 ?db4 ?db5 ?_))
     case p1b=>exact (World.ownsRow.alloc (World.ownsRow.alloc HO.out _) _)
     try (case db1=>exact C8 _ _ _ _ _ (by simp))
     case db2=>first|exact ⟨rfl,rfl⟩|exact Df rfl rfl|(intro u hu;simp at hu;rcases hu with rfl|rfl <;>rfl)
     case db3=>(try simp only [jO,List.length_cons,List.length_nil]);unfold maxLen;omega
     case db4=>(try simp only [jO,List.length_cons,List.length_nil]);omega
     case db5=>first|omega|(simp;omega)
     intro v2 w2 hown2 hgrow2 _;have hb2:Aa wm w2:=((hb.step_alloc _).step_alloc _).grown hgrow2 (fun g hg=>by have:=(World.ownsRow.lt HO.out g hg).1;omega);have H2:Hid (AJ (w.heap.size+1) w2 v2 (L++[(mid,mw)])):=AJ.snoc (b:=(mid,mw)) hown2 rfl;have x0:w2.cell? ⟨wr.heap.size,0,none⟩=some (.string idk):=JD hgrow2 (by simp) (fun e=>by have:=(World.ownsRow.lt HO.out _ e).2;simp at this);have x1:w2.cell? ⟨wr.heap.size,1,none⟩=some (.int .i64 wk):=JD hgrow2 (by simp) (fun e=>by have:=(World.ownsRow.lt HO.out _ e).2;simp at this);have hs2:=hb2.size;clear hown2 hgrow2;go_wp2_with (first|(at_builtin;refine wpList_append_own _ rfl _ _ 58 rfl (w.heap.size+1) 75 i0 (.agg #[.string ByteArray.empty,.int .i64 0]) 2 24 Tryz.underlying58 hi hz0 hz1 hz2 rfl (by decide) _ (L++[(mid,mw)]).length (AC (L++[(mid,mw)])) rfl ?p1c ⟨w2.heap.size,0,none⟩ 1 1 [.string idk,.int .i64 wk] rfl rfl ?dc1 ?dc2 ?dc3 ?dc4 ?dc5 ?_))
     case p1c=>exact (World.ownsRow.alloc H2.out _)
     try (case dc1=>exact C8 _ _ _ _ _ (by simp))
     case dc2=>first|exact ⟨rfl,rfl⟩|exact Df rfl rfl|(intro u hu;simp at hu;rcases hu with rfl|rfl <;>rfl)
     case dc3=>(try simp only [jO,List.length_cons,List.length_nil]);unfold maxLen;omega
     case dc4=>(try simp only [jO,List.length_cons,List.length_nil]);omega
     case dc5=>first|omega|(simp;omega)
     intro v3 w3 hown3 hgrow3 _;have hb3:Aa wm w3:=(hb2.step_alloc _).grown hgrow3 (fun g hg=>by have:=(World.ownsRow.lt H2.out g hg).1;omega);have H3:Hid (AJ (w.heap.size+1) w3 v3 (L++[(mid,mw)]++[(idk,wk)])):=AJ.snoc (b:=(idk,wk)) hown3 (by simp);clear hown3 hgrow3;go_wp2;go_roundg (B.length - (k+1))
     case measure=>omega
     case rel=>exact ⟨hb3,k+1,true,_,rfl,by omega,by go_num,rfl,H3.out,HS.out⟩
   ·have HS:Hid (L++[(idk,wk)]++(if true=true then B.drop (k+1) else Bg (mid,mw) (B.drop (k+1)))=Bg (mid,mw) B):=S1.out rfl;clear S1 S2 S3;go_wp2_with (first|(at_builtin;refine wpList_append_own _ rfl _ _ 58 rfl (w.heap.size+1) 75 i0 (.agg #[.string ByteArray.empty,.int .i64 0]) 2 24 Tryz.underlying58 hi hz0 hz1 hz2 rfl (by decide) _ (L).length (AC (L)) rfl ?p1e ⟨wr.heap.size+1,0,none⟩ 1 1 [.string idk,.int .i64 wk] rfl rfl ?de1 ?de2 ?de3 ?de4 ?de5 ?_))
    case p1e=>exact (World.ownsRow.alloc (World.ownsRow.alloc HO.out _) _)
    try (case de1=>exact C8 _ _ _ _ _ (by simp))
    case de2=>first|exact ⟨rfl,rfl⟩|exact Df rfl rfl|(intro u hu;simp at hu;rcases hu with rfl|rfl <;>rfl)
    case de3=>(try simp only [jO,List.length_cons,List.length_nil]);unfold maxLen;omega
    case de4=>(try simp only [jO,List.length_cons,List.length_nil]);omega
    case de5=>first|omega|(simp;omega)
    intro v2 w2 hown2 hgrow2 _;have hb2:Aa wm w2:=((hb.step_alloc _).step_alloc _).grown hgrow2 (fun g hg=>by have:=(World.ownsRow.lt HO.out g hg).1;omega);have H2:Hid (AJ (w.heap.size+1) w2 v2 (L++[(idk,wk)])):=AJ.snoc (b:=(idk,wk)) hown2 rfl;clear hown2 hgrow2;go_wp2;go_roundg (B.length - (k+1))
    case measure=>omega
    case rel=>exact ⟨hb2,k+1,true,_,rfl,by omega,by go_num,rfl,H2.out,HS.out⟩
  ·have hd:B.drop k=[]:=List.drop_eq_nil_of_le (by omega);rw [hd] at heq;have HE:Hid (L++(if laid then [] else [(mid,mw)])=Bg (mid,mw) B):=by unfold Hid;cases laid <;>simpa [Bg] using heq
   clear hc heq hd;cases laid
   ·go_wp2_with (first|(at_builtin;refine wpList_append_own _ rfl _ _ 58 rfl (w.heap.size+1) 75 i0 (.agg #[.string ByteArray.empty,.int .i64 0]) 2 24 Tryz.underlying58 hi hz0 hz1 hz2 rfl (by decide) _ (L).length (AC (L)) rfl ?p1f ⟨wr.heap.size,0,none⟩ 1 1 [.string mid,.int .i64 mw] rfl rfl ?df1 ?df2 ?df3 ?df4 ?df5 ?_))
    case p1f=>exact (World.ownsRow.alloc HO.out _)
    try (case df1=>exact C8 _ _ _ _ _ (by simp))
    case df2=>first|exact ⟨rfl,rfl⟩|exact Df rfl rfl|(intro u hu;simp at hu;rcases hu with rfl|rfl <;>rfl)
    case df3=>(try simp only [jO,List.length_cons,List.length_nil]);unfold maxLen;omega
    case df4=>(try simp only [jO,List.length_cons,List.length_nil]);omega
    case df5=>first|omega|(simp;omega)
    intro v2 w2 hown2 hgrow2 _;have hb2:Aa wm w2:=(hb.step_alloc _).grown hgrow2 (fun g hg=>by have:=(World.ownsRow.lt HO.out g hg).1;omega);have H2:Hid (AJ (w.heap.size+1) w2 v2 (L++[(mid,mw)])):=AJ.snoc (b:=(mid,mw)) hown2 rfl;clear hown2 hgrow2;go_wp2;go_ret;exact ⟨_,rfl,hwb.trans hb2,by have:=H2.out;rw [show L++[(mid,mw)]=Bg (mid,mw) B from HE.out] at this;exact this.mono (by omega)⟩
   ·go_wp2;go_ret;exact ⟨_,rfl,hwb.trans hb,by have:=HO.out;rw [show L=Bg (mid,mw) B from by simpa using HE.out] at this;exact this.mono (by omega)⟩
theorem XP (B:List BK) (p k:Nat) (hk:k<B.length):(B.take (k+1)).eraseIdx p=if k=p then (B.take k).eraseIdx p else (B.take k).eraseIdx p++[B[k]]:=by
 rw [jQ hk,List.eraseIdx_append];have hl:(B.take k).length=k:=by simp;omega
 rw [hl];by_cases h1:p<k
 ·rw [if_pos h1,if_neg (by omega)]
 ·rw [if_neg h1];have he:(B.take k).eraseIdx p=B.take k:=List.eraseIdx_of_length_le (by omega);rw [he];by_cases h2:k=p
  ·subst h2;simp
  ·rw [if_neg h2];obtain ⟨d,hd⟩:∃d,p - k=d+1:=⟨p - k - 1,by omega⟩;rw [hd];simp
theorem Yt (B:List BK) (v:Value) (p:Nat) (w:World) (hP:Am w v B) (hB:B.length≤8) (hp:p<B.length):
  Calls Tryz.prog 161 #[v,.int .i64 p] w (KP w (B.eraseIdx p)):=by
 obtain ⟨i0,hi,hz0,hz1,hz2⟩:=info_parts Tryz.infoBK;obtain ⟨ao,cap,rfl,hc⟩:=hP.open;go_enter Tryz.func161,Tryz.ntmps161;go_wp2_with (first|(at_make;refine wpList_make_own _ rfl _ _ 58 rfl w.heap.size 75 i0 (.agg #[.string ByteArray.empty,.int .i64 0]) 2 Tryz.underlying58 hi hz0 hz1 _ _ _ B.length rfl rfl ?b1 ?b2 ?b3 ?b4 ?_))
 case b1=>rfl
 case b2=>rw [hz2];omega
 case b3=>unfold maxLen;omega
 case b4=>exact jH _
 intro w1 hown1 hgrow1;have hb1:Aa w w1:=(jD _).grown hgrow1 (fun g hg=>by cases hg);have hown:AJ w.heap.size w1 (.slice (some ⟨w.heap.size,0,none⟩) 0 B.length) []:=hown1;clear hgrow1 hown1;generalize (Value.slice (some ⟨w.heap.size,0,none⟩) 0 B.length)=v1 at *;go_wp2;go_loopg [5,13] B.length (fun r vL n wr=>Aa w wr∧∃(k:Nat),r=B.length - k∧k≤B.length∧n= .int .i64 k∧AJ w.heap.size wr vL ((B.take k).eraseIdx p))
 case atStart=>exact ⟨hb1,0,by omega,by omega,rfl,by simpa using hown⟩
 case round=>
  obtain ⟨hb,k,hr,hk,rfl,hL⟩:=hrel;have hwr:=hb.size;have hLl:((B.take k).eraseIdx p).length≤8:=jX (List.length_eraseIdx_le _ _) (by simp;omega);have HO:=jp hL;clear hb1 hown hL;by_cases hlt:k<B.length
  ·obtain ⟨g,rfl,c0,c1⟩:=hc k hlt;have c0':=hb.cell c0;have c1':=hb.cell c1;have HS:Hid ((B.take (k+1)).eraseIdx p=if k=p then (B.take k).eraseIdx p else (B.take k).eraseIdx p++[B[k]]):=XP B p k hlt;clear hc c0 c1;generalize B[k]=bk at *;obtain ⟨idk,wk⟩:=bk;simp only at c0' c1';generalize (B.take k).eraseIdx p=L at *;by_cases hkp:k=p
   ·subst hkp;rw [if_pos rfl] at HS;go_wp2;go_roundg (B.length - (k+1))
    case measure=>omega
    case rel=>exact ⟨by solve_by_elim [jA,jB,jC,jD,jE],k+1,rfl,by omega,by go_num,by rw [HS.out];exact World.ownsRow.alloc HO.out _⟩
   ·have hkb:((k:Int) !=(p:Int))=true:=by rw [bne_iff_ne];omega
    rw [if_neg hkp] at HS;go_wp2_with (first|(at_builtin;refine wpList_append_own _ rfl _ _ 58 rfl w.heap.size 75 i0 (.agg #[.string ByteArray.empty,.int .i64 0]) 2 24 Tryz.underlying58 hi hz0 hz1 hz2 rfl (by decide) _ (L).length (AC (L)) rfl ?p1a ⟨wr.heap.size+1,0,none⟩ 1 1 [.string idk,.int .i64 wk] rfl rfl ?da1 ?da2 ?da3 ?da4 ?da5 ?_))
    case p1a=>exact (World.ownsRow.alloc (World.ownsRow.alloc HO.out _) _)
    try (case da1=>exact C8 _ _ _ _ _ (by simp))
    case da2=>first|exact ⟨rfl,rfl⟩|exact Df rfl rfl|(intro u hu;simp at hu;rcases hu with rfl|rfl <;>rfl)
    case da3=>(try simp only [jO,List.length_cons,List.length_nil]);unfold maxLen;omega
    case da4=>(try simp only [jO,List.length_cons,List.length_nil]);omega
    case da5=>first|omega|(simp;omega)
    intro v2 w2 hown2 hgrow2 _;have hb2:Aa w w2:=((hb.step_alloc _).step_alloc _).grown hgrow2 (fun g hg=>by have:=(World.ownsRow.lt HO.out g hg).1;omega);have H2:Hid (AJ w.heap.size w2 v2 (L++[(idk,wk)])):=AJ.snoc (b:=(idk,wk)) hown2 rfl;clear hown2 hgrow2;go_wp2;go_roundg (B.length - (k+1))
    case measure=>omega
    case rel=>exact ⟨hb2,k+1,rfl,by omega,by go_num,by rw [HS.out];exact H2.out⟩
  ·have HE:Hid ((B.take k).eraseIdx p=B.eraseIdx p):=by rw [jR (by omega)];rfl
   clear hc;go_wp2;go_ret;exact ⟨_,rfl,hb,by rw [←HE.out];exact HO.out⟩
theorem RC (B:List BK) (v:Value) (p:Nat) (x:Int) (w:World) (hP:Am w v B) (hB:B.length≤8) (hp:p<B.length):
  Calls Tryz.prog 162 #[v,.int .i64 p,.int .i64 x] w (KP w (B.set p (B[p].1,x))):=by
 obtain ⟨i0,hi,hz0,hz1,hz2⟩:=info_parts Tryz.infoBK;obtain ⟨ao,cap,rfl,hc⟩:=hP.open;obtain ⟨C,hC⟩:∃C,C=B.set p (B[p].1,x):=⟨_,rfl⟩;have hCl:C.length=B.length:=by rw [hC];simp
 have hCk:∀j (h:j<B.length),C[j]'(by omega)=if j=p then (B[j].1,x) else B[j]:=by
  intro j h;subst hC;rw [List.getElem_set];by_cases hj:p=j
  ·subst hj;simp
  ·rw [if_neg hj,if_neg (fun e=>hj e.symm)]
 rw [←hC];clear hC;go_enter Tryz.func162,Tryz.ntmps162;go_wp2_with (first|(at_make;refine wpList_make_own _ rfl _ _ 58 rfl w.heap.size 75 i0 (.agg #[.string ByteArray.empty,.int .i64 0]) 2 Tryz.underlying58 hi hz0 hz1 _ _ _ B.length rfl rfl ?b1 ?b2 ?b3 ?b4 ?_))
 case b1=>rfl
 case b2=>rw [hz2];omega
 case b3=>unfold maxLen;omega
 case b4=>exact jH _
 intro w1 hown1 hgrow1;have hb1:Aa w w1:=(jD _).grown hgrow1 (fun g hg=>by cases hg);have hown:AJ w.heap.size w1 (.slice (some ⟨w.heap.size,0,none⟩) 0 B.length) []:=hown1;clear hgrow1 hown1;generalize (Value.slice (some ⟨w.heap.size,0,none⟩) 0 B.length)=v1 at *;go_wp2;go_loopg [7,15] B.length (fun r vL n wr=>Aa w wr∧∃(k:Nat),r=B.length - k∧k≤B.length∧n= .int .i64 k∧AJ w.heap.size wr vL (C.take k))
 case atStart=>exact ⟨hb1,0,by omega,by omega,rfl,by simpa using hown⟩
 case round=>
  obtain ⟨hb,k,hr,hk,rfl,hL⟩:=hrel;have hwr:=hb.size;have hLl:(C.take k).length≤8:=by simp;omega
  have HO:=jp hL;clear hb1 hown hL;by_cases hlt:k<B.length
  ·obtain ⟨g,rfl,c0,c1⟩:=hc k hlt;have c0':=hb.cell c0;have c1':=hb.cell c1;have HS:Hid (C.take (k+1)=C.take k++[if k=p then (B[k].1,x) else B[k]]):=by rw [←hCk k hlt];exact jQ (by omega)
   clear hc c0 c1 hCk;generalize B[k]=bk at *;obtain ⟨idk,wk⟩:=bk;simp only at c0' c1';generalize C.take k=L at *;by_cases hkp:k=p
   ·subst hkp;rw [if_pos rfl] at HS;go_wp2_with (first|(at_builtin;refine wpList_append_own _ rfl _ _ 58 rfl w.heap.size 75 i0 (.agg #[.string ByteArray.empty,.int .i64 0]) 2 24 Tryz.underlying58 hi hz0 hz1 hz2 rfl (by decide) _ (L).length (AC (L)) rfl ?p1a ⟨wr.heap.size+1,0,none⟩ 1 1 [.string idk,.int .i64 x] rfl rfl ?da1 ?da2 ?da3 ?da4 ?da5 ?_))
    case p1a=>exact (World.ownsRow.alloc (World.ownsRow.alloc HO.out _) _)
    try (case da1=>exact C8 _ _ _ _ _ (by simp))
    case da2=>first|exact ⟨rfl,rfl⟩|exact Df rfl rfl|(intro u hu;simp at hu;rcases hu with rfl|rfl <;>rfl)
    case da3=>(try simp only [jO,List.length_cons,List.length_nil]);unfold maxLen;omega
    case da4=>(try simp only [jO,List.length_cons,List.length_nil]);omega
    case da5=>first|omega|(simp;omega)
    intro v2 w2 hown2 hgrow2 _;have hb2:Aa w w2:=((hb.step_alloc _).step_alloc _).grown hgrow2 (fun g hg=>by have:=(World.ownsRow.lt HO.out g hg).1;omega);have H2:Hid (AJ w.heap.size w2 v2 (L++[(idk,x)])):=AJ.snoc (b:=(idk,x)) hown2 rfl;clear hown2 hgrow2;go_wp2;go_roundg (B.length - (k+1))
    case measure=>omega
    case rel=>exact ⟨hb2,k+1,rfl,by omega,by go_num,by rw [HS.out];exact H2.out⟩
   ·have hkb:((k:Int)==(p:Int))=false:=by rw [jI];omega
    rw [if_neg hkp] at HS;go_wp2_with (first|(at_builtin;refine wpList_append_own _ rfl _ _ 58 rfl w.heap.size 75 i0 (.agg #[.string ByteArray.empty,.int .i64 0]) 2 24 Tryz.underlying58 hi hz0 hz1 hz2 rfl (by decide) _ (L).length (AC (L)) rfl ?p1b ⟨wr.heap.size+1,0,none⟩ 1 1 [.string idk,.int .i64 wk] rfl rfl ?db1 ?db2 ?db3 ?db4 ?db5 ?_))
    case p1b=>exact (World.ownsRow.alloc (World.ownsRow.alloc HO.out _) _)
    try (case db1=>exact C8 _ _ _ _ _ (by simp))
    case db2=>first|exact ⟨rfl,rfl⟩|exact Df rfl rfl|(intro u hu;simp at hu;rcases hu with rfl|rfl <;>rfl)
    case db3=>(try simp only [jO,List.length_cons,List.length_nil]);unfold maxLen;omega
    case db4=>(try simp only [jO,List.length_cons,List.length_nil]);omega
    case db5=>first|omega|(simp;omega)
    intro v2 w2 hown2 hgrow2 _;have hb2:Aa w w2:=((hb.step_alloc _).step_alloc _).grown hgrow2 (fun g hg=>by have:=(World.ownsRow.lt HO.out g hg).1;omega);have H2:Hid (AJ w.heap.size w2 v2 (L++[(idk,wk)])):=AJ.snoc (b:=(idk,wk)) hown2 rfl;clear hown2 hgrow2;go_wp2;go_roundg (B.length - (k+1))
    case measure=>omega
    case rel=>exact ⟨hb2,k+1,rfl,by omega,by go_num,by rw [HS.out];exact H2.out⟩
  ·have HE:Hid (C.take k=C):=jR (by omega);clear hc;go_wp2;go_ret;exact ⟨_,rfl,hb,by rw [←HE.out];exact HO.out⟩
theorem XT (op:BinOp) (a b:Int) (h:op= .xor∨op= .or):0≤bits op .u64 a b∧bits op .u64 a b<18446744073709551616:=by
 rcases h with rfl|rfl
 ·show 0≤IntKind.u64.wrap _∧IntKind.u64.wrap _<_;rw [IntKind.wrap_u64];omega
 ·show 0≤IntKind.u64.wrap _∧IntKind.u64.wrap _<_;rw [IntKind.wrap_u64];omega
theorem He (key:ByteArray) (l:UInt8) (n:List Nat) (t:ByteArray):0≤Al key l n t∧Al key l n t<18446744073709551616:=XT _ _ _ (Or.inl rfl)
theorem Kt (h m:Int) (hm:1≤m):0≤Cv h m∧Cv h m<m:=by
 rw [Cv,if_neg (by omega)];exact ⟨Int.emod_nonneg _ (by omega),Int.emod_lt_of_pos _ (by omega)⟩
theorem Kp (h m:Int) (w:World) (h0:0≤h) (h1:h<18446744073709551616) (hm:m≤65536) (hm0:0≤m):
  Calls Tryz.prog 219 #[.int .u64 h,.int .i64 m] w fun e w'=>e= .returned (.int .i64 (Cv h m))∧w=w':=by
 by_cases hlt:m<1
 ·have HE:Hid (Cv h m=0):=by show Cv h m=0;rw [Cv,if_pos hlt]
  generalize Cv h m=X at *;go_enter Tryz.func219,Tryz.ntmps219;go_wp2;go_ret;exact ⟨BO HE.out.symm,rfl⟩
 ·have HE:Hid (Cv h m=h % m):=by show Cv h m=h % m;rw [Cv,if_neg hlt]
  have hr1:=Int.emod_nonneg h (show m≠0 by omega);have hr2:=Int.emod_lt_of_pos h (show 0<m by omega);generalize Cv h m=X at *;go_enter Tryz.func219,Tryz.ntmps219;go_wp2;go_ret;exact ⟨BO HE.out.symm,rfl⟩
def Bf (l:List EI):List Value:=l.flatMap fun b=>[.int .u64 b.1,.int .i64 b.2]
theorem Ps (l:List EI):(Bf l).length=l.length * 2:=by
 induction l with
 |nil=>rfl
 |cons b l ih=>simp only [Bf,List.flatMap_cons,jO,List.length_cons,List.length_nil] at ih ⊢;omega
theorem JZ (l:List EI) (j:Nat) (h:j<l.length):(Bf l)[j * 2]?=some (.int .u64 l[j].1)∧(Bf l)[j * 2+1]?=some (.int .i64 l[j].2):=by
 induction l generalizing j with
 |nil=>simp at h
 |cons b l ih=>
  cases j with
  |zero=>simp [Bf]
  |succ j=>
   obtain ⟨h1,h2⟩:=ih j (by simpa using h);have e1:(j+1) * 2=j * 2+1+1:=by omega
   rw [e1];simp only [Bf,List.flatMap_cons,List.cons_append,List.nil_append,List.getElem?_cons_succ] at h1 h2 ⊢;exact ⟨h1,h2⟩
theorem Sg (L:List EI) (b:EI):Bf (L++[b])=Bf L++[.int .u64 b.1,.int .i64 b.2]:=by simp [Bf]
def AR (w:World) (v:Value) (l:List EI):Prop:=Ap w v l.length (Bf l)
theorem AR.later {a w:World} {v:Value} {l:List EI} (h:AR a v l) (k:Aa a w):AR w v l:=Ap.later h k
theorem AR.open {w:World} {v:Value} {B:List EI} (h:AR w v B):∃ao cap,v= .slice ao B.length cap∧∀j (hj:j<B.length),∃g,ao=some ⟨g,0,none⟩∧w.cell? ⟨g,j * 2,none⟩=some (.int .u64 B[j].1)∧w.cell? ⟨g,j * 2+1,none⟩=some (.int .i64 B[j].2):=by
 rcases h with ⟨h1,h2,_⟩|⟨g,cap,hv,hn,hg,hc⟩
 ·exact ⟨none,0,by rw [h1,h2],fun j hj=>by omega⟩
 ·exact ⟨_,cap,hv,fun j hj=>⟨g,rfl,hc _ _ (JZ B j hj).1,hc _ _ (JZ B j hj).2⟩⟩
def AS (base:Nat) (w:World) (v:Value) (B:List EI):Prop:=w.ownsRow base 116 2 v B.length (Bf B)
theorem AS.ents {base:Nat} {w:World} {v:Value} {B:List EI} (h:AS base w v B):AR w v B:=Ap.of_owns h
theorem AS.snoc {base:Nat} {w:World} {v:Value} {L:List EI} {b:EI} {n:Nat} (h:w.ownsRow base 116 2 v n (Bf L++[.int .u64 b.1,.int .i64 b.2])) (hn:n=L.length+1):AS base w v (L++[b]):=by
 unfold AS;rw [Sg,jO];subst hn;exact h
def Hj (w:World) (v:Value) (l:List Int):Prop:=Ap w v l.length (l.map (Value.int .i64))
theorem Hj.open {w:World} {v:Value} {l:List Int} (h:Hj w v l):∃ao cap,v= .slice ao l.length cap∧∀j (hj:j<l.length),∃g,ao=some ⟨g,0,none⟩∧w.cell? ⟨g,j,none⟩=some (.int .i64 l[j]):=by
 rcases h with ⟨h1,h2,_⟩|⟨g,cap,hv,hn,hg,hc⟩
 ·exact ⟨none,0,by rw [h1,h2],fun j hj=>by omega⟩
 ·exact ⟨_,cap,hv,fun j hj=>⟨g,rfl,hc j _ (by simp [hj])⟩⟩
theorem OF {E:List EI} {h:Int} {k:Nat} (hk:k<E.length) (he:h≤E[k].1) (hall:∀j (hj:j<E.length),j<k→¬h≤E[j].1):A8 E h=k:=by
 have:E.findIdx (fun e=>h≤e.1)=k:=by
  rw [List.findIdx_eq hk];exact ⟨by simpa using he,fun j hj=>by simpa using hall j (by omega) hj⟩
 rw [A8,this,if_pos hk]
theorem Nx {E:List EI} {h:Int} (hall:∀j (hj:j<E.length),¬h≤E[j].1):A8 E h=0:=by
 rw [A8,if_neg];intro hlt;have:=List.findIdx_getElem (p:=fun e:EI=>decide (h≤e.1)) (w:=hlt);exact hall _ hlt (by simpa using this)
def D9 (w:World) (x:Nat) (e:Ending) (w':World):Prop:=e= .returned (.int .i64 (x:Int))∧Aa w w'
theorem Is (E:List EI) (v:Value) (h:Int) (w:World) (hP:AR w v E) (hB:E.length≤65536):
  Calls Tryz.prog 218 #[v,.int .u64 h] w (D9 w (A8 E h)):=by
 obtain ⟨ao,cap,rfl,hc⟩:=hP.open;obtain ⟨X,hX⟩:∃X,X=A8 E h:=⟨_,rfl⟩;have HX:=jp hX;rw [←hX];clear hX;go_enter Tryz.func218,Tryz.ntmps218;go_wp2;go_loopg [9] E.length (fun r n wr=>Aa w wr∧∃k:Nat,r=E.length - k∧k≤E.length∧n= .int .i64 k∧∀j (hj:j<E.length),j<k→¬h≤E[j].1)
 case atStart=>exact ⟨jD _,0,by omega,by omega,rfl,fun j _ h=>by omega⟩
 case round=>
  obtain ⟨hb,k,hr,hk,rfl,hall⟩:=hrel;have HA:=jp hall;clear hall;by_cases hlt:k<E.length
  ·obtain ⟨g,rfl,c0,c1⟩:=hc k hlt;have c0':=hb.cell c0;have c1':=hb.cell c1;clear hc c0 c1;by_cases hge:h≤E[k].1
   ·have hfin:Hid (X=k):=by show X=k;rw [HX.out];exact OF hlt hge HA.out
    have hd:decide (E[k].1≥h)=true:=jL hge;generalize E[k].1=pk at *;generalize E[k].2=ok at *;go_wp2;go_ret;exact ⟨BO (by rw [hfin.out]),by solve_by_elim [jA,jB,jC,jD,jE]⟩
   ·have hstep:Hid (∀j (hj:j<E.length),j<k+1→¬h≤E[j].1):=fun j hj hjk=>by
     by_cases he:j=k
     ·subst he;exact hge
     ·exact HA.out j hj (by omega)
    have hd:decide (E[k].1≥h)=false:=jK hge
    generalize E[k].1=pk at *
    generalize E[k].2=ok at *
    go_wp2
    go_roundg (E.length - (k+1))
    case measure=>omega
    case rel=>exact ⟨by solve_by_elim [jA,jB,jC,jD,jE],k+1,rfl,by omega,by go_num,hstep.out⟩
  ·have hfin:Hid (X=0):=by show X=0;rw [HX.out];exact Nx (fun j hj=>HA.out j hj (by omega))
   clear hc;go_wp2;go_ret;exact ⟨BO (by rw [hfin.out];rfl),by solve_by_elim [jA,jB,jC,jD,jE]⟩
theorem Qe (R:List Int) (v:Value) (w:World) (hP:Hj w v R) (hB:R.length≤65536):
  Calls Tryz.prog 220 #[v] w (J0 w (C1 R)):=by
 obtain ⟨ao,cap,rfl,hc⟩:=hP.open;obtain ⟨X,hX⟩:∃X,X=C1 R:=⟨_,rfl⟩;have HX:=jp hX;rw [←hX];clear hX;go_enter Tryz.func220,Tryz.ntmps220;go_wp2;go_loopg [3,4,9] R.length (fun r b m n wr=>w=wr∧∃k:Nat,r=R.length - k∧k≤R.length∧n= .int .i64 k∧b= .int .i64 (A5 R k).1∧m= .int .i64 (A5 R k).2)
 case atStart=>exact ⟨rfl,0,by omega,by omega,rfl,rfl,rfl⟩
 case round=>
  obtain ⟨rfl,k,hr,hk,rfl,rfl,rfl⟩:=hrel;by_cases hlt:k<R.length
  ·obtain ⟨g,rfl,c0⟩:=hc k hlt
   have HS:Hid (A5 R (k+1)=if (A5 R k).2<R[k] then ((k:Int),R[k]) else A5 R k):=by
    show A5 R (k+1)=_;rw [A5,jV,jG hlt];rfl
   clear hc;generalize R[k]=rk at *;generalize A5 R k=b at *;obtain ⟨b1,b2⟩:=b;simp only at HS;by_cases hg:b2<rk
   ·rw [if_pos hg] at HS;have hd:decide (rk>b2)=true:=jL hg;go_wp2;go_roundg (R.length - (k+1))
    case measure=>omega
    case rel=>exact ⟨rfl,k+1,rfl,by omega,by go_num,by rw [HS.out],by rw [HS.out]⟩
   ·rw [if_neg hg] at HS;have hd:decide (rk>b2)=false:=jK hg;go_wp2;go_roundg (R.length - (k+1))
    case measure=>omega
    case rel=>exact ⟨rfl,k+1,rfl,by omega,by go_num,by rw [HS.out],by rw [HS.out]⟩
  ·have hfin:Hid (X=(A5 R k).1):=by
    show X=_;rw [HX.out,C1,show k=R.length from by omega]
   clear hc
   generalize A5 R k=b at *
   go_wp2
   go_ret
   exact ⟨BO hfin.out.symm,by solve_by_elim [jA,jB,jC,jD,jE]⟩
theorem KB {P:Program} {ops:Array Oper} {o:Oper} {a:Act} {w:World} {K:Act→World→Prop} {Q:Exit→Act→World→Prop} {E:Prop}
  (hg:o.guard=none) (s x:Operand) (t:TypeId) (hop:o.op=Op.call {callee:=Callee.builtin Builtin.append,args:=#[s,x],argTypes:=#[t,t]})
  (base:Nat) (e:TypeId) (i:TypeInfo) (z:Value) (size bytes:Nat) (h1:P.underlying t=some (.slice e)) (h2:P.info? e=some i) (h3:i.zero=some z) (h4:i.size=size) (h5:i.bytes=bytes) (h6:z.cells.size=size) (h7:0<size)
  (v:Value) (n:Nat) (xs:List Value) (hs:a.eval s=v) (hown:w.ownsRow base e size v n xs)
  (ad:Addr) (m c:Nat) (news:List Value) (hx:a.eval x= .slice (some ad) m c) (hn:news.length=m * size) (hc:∀j u,news[j]?=some u→w.cell? (ad.add j)=some u) (h1c:∀u∈news,u.oneCell'=true)
  (b1:n+m≤maxLen) (b2:(n+m) * bytes≤140737488355328) (hbase:base≤w.heap.size)
  (hK:∀v' w',w'.ownsRow base e size v' (n+m) (xs++news)→w.grownBy w' v.ownBlock→K (a.put o.dst v') w'):
  if Region.wanted o (yielded ops a.tmps)=true then Oper.wp P o a w K Q else E:=by
 have hw:Region.wanted o (yielded ops a.tmps)=true:=by simp [Region.wanted,hg]
 rw [if_pos hw];obtain ⟨v',w',hrun,r1,r2,_⟩:=run_append_own (P:=P) w base t o.type e i z size bytes h1 h2 h3 h4 h5 h6 h7 v n xs hown ad m c news hn hc h1c b1 b2 hbase;unfold Oper.wp;simp [execOp,hop,resolve,invoke,builtin,hs,hx,hrun,Result.andThen];exact hK v' w' r1 r2
theorem VN {S:List Int} {y:Int×Int} {k:Nat} (hk:k<S.length) (hfree:S.getD (A0 S.length y k) 0<0) (hall:∀i,i<k→¬S.getD (A0 S.length y i) 0<0):EF S y=some (A0 S.length y k):=by
 rw [EF,List.find?_eq_some_iff_getElem];refine ⟨by simpa using hfree,k,by simpa using hk,by simp,fun j hj=>?_⟩;simpa using hall j hj
theorem VY {S:List Int} {y:Int×Int} (hall:∀i,i<S.length→¬S.getD (A0 S.length y i) 0<0):EF S y=none:=by
 rw [EF,List.find?_eq_none];intro x hx;obtain ⟨i,hi,rfl⟩:=List.mem_map.1 hx;simpa using hall i (by simpa using hi)
theorem K9 {n:Nat} (y:Int×Int) (i:Nat) (hn:0<n):A0 n y i<n:=by
 unfold A0;have h1:=Int.emod_nonneg (y.1+i * y.2) (show (n:Int)≠0 by omega);have h2:=Int.emod_lt_of_pos (y.1+i * y.2) (show (0:Int)<n by omega);omega
def BF (S:List Int):List EI:=S.map fun o=>(0,o)
theorem Gp (S:List Int):(BF S).length=S.length:=by simp [BF]
def Hr:Option Nat→Int
 |some k=>k
 |none=> -1
def VK (w:World) (x:Option Nat) (e:Ending) (w':World):Prop:=e= .returned (.int .i64 (Hr x))∧Aa w w'
theorem VI (S:List Int) (v:Value) (y:Int×Int) (w:World) (hP:AR w v (BF S)) (hB:S.length≤300) (hy1:0≤y.1) (hy2:y.1≤300) (hy3:0≤y.2) (hy4:y.2≤300):
  Calls Tryz.prog 183 #[v,.agg #[.int .i64 y.1,.int .i64 y.2]] w (VK w (EF S y)):=by
 obtain ⟨ao,cap,rfl,hc⟩:=hP.open;rw [Gp];obtain ⟨X,hX⟩:∃X,X=EF S y:=⟨_,rfl⟩;have HX:=jp hX;rw [←hX];clear hX;obtain ⟨off,sk⟩:=y;simp only at hy1 hy2 hy3 hy4 ⊢;go_enter Tryz.func183,Tryz.ntmps183;go_wp2;obtain ⟨wm,hwm⟩:∃wm,wm=w.alloc (.cells #[.int .i64 off,.int .i64 sk] 211):=⟨_,rfl⟩;have m0:wm.cell? ⟨w.heap.size,0,none⟩=some (.int .i64 off):=by rw [hwm];simp
 have m1:wm.cell? ⟨w.heap.size,1,none⟩=some (.int .i64 sk):=by rw [hwm];simp
 have hwb:Aa w wm:=by rw [hwm];exact (jD w).step_alloc _
 rw [←hwm];clear hwm;go_loopg [9] S.length (fun r n wr=>wm=wr∧∃k:Nat,r=S.length - k∧k≤S.length∧n= .int .i64 k∧∀i,i<k→¬S.getD (A0 S.length (off,sk) i) 0<0)
 case atStart=>exact ⟨rfl,0,by omega,by omega,rfl,fun j h=>by omega⟩
 case round=>
  obtain ⟨rfl,k,hr,hk,rfl,hall⟩:=hrel;have HA:=jp hall;clear hall;by_cases hlt:k<S.length
  ·have hk1:0≤(k:Int) * sk:=Int.mul_nonneg (by omega) hy3;have hk2:(k:Int) * sk≤300 * 300:=Int.mul_le_mul (by omega) hy4 hy3 (by omega);have hjl:=K9 (off,sk) k (show 0<S.length by omega)
   have hj:(off+(k:Int) * sk) % (S.length:Int)=((A0 S.length (off,sk) k:Nat):Int):=by
    have:=Int.emod_nonneg (off+(k:Int) * sk) (show (S.length:Int)≠0 by omega);exact (Int.toNat_of_nonneg this).symm
   obtain ⟨g,rfl,c0,c1⟩:=hc (A0 S.length (off,sk) k) (by rw [Gp];exact hjl);have c1':=hwb.cell c1
   have hsv:(BF S)[A0 S.length (off,sk) k]'(by rw [Gp];exact hjl)=(0,S.getD (A0 S.length (off,sk) k) 0):=by
    simp [BF,List.getD_eq_getElem?_getD,hjl]
   rw [hsv] at c1';simp only at c1';clear hc c0 c1 hsv;by_cases hf:S.getD (A0 S.length (off,sk) k) 0<0
   ·have hfin:Hid (Hr X=((A0 S.length (off,sk) k:Nat):Int)):=by
     show Hr X=_;rw [HX.out,VN hlt hf HA.out];rfl
    generalize S.getD (A0 S.length (off,sk) k) 0=sv at *
    generalize A0 S.length (off,sk) k=j at *
    have hnz:((S.length:Int)==0)=false:=by rw [jI];omega
    go_wp2
    go_ret
    exact ⟨BO hfin.out.symm,hwb⟩
   ·have hstep:Hid (∀i,i<k+1→¬S.getD (A0 S.length (off,sk) i) 0<0):=fun i hi=>by
     by_cases he:i=k
     ·subst he;exact hf
     ·exact HA.out i (by omega)
    generalize S.getD (A0 S.length (off,sk) k) 0=sv at *
    generalize A0 S.length (off,sk) k=j at *
    have hnz:((S.length:Int)==0)=false:=by rw [jI];omega
    go_wp2
    go_roundg (S.length - (k+1))
    case measure=>omega
    case rel=>exact ⟨rfl,k+1,rfl,by omega,by go_num,hstep.out⟩
  ·have hfin:Hid (Hr X= -1):=by
    show Hr X= -1;rw [HX.out,VY (fun i hi=>HA.out i (by omega))];rfl
   clear hc
   go_wp2
   go_ret
   exact ⟨BO hfin.out.symm,hwb⟩
end Go.Proofs.YtpapdkhjdelfcabGreat
