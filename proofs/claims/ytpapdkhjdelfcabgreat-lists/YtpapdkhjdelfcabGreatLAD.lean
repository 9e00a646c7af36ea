import Derived.Test.YtpapdkhjdelfcabGreatLAC
import Derived.Deep.AppendLies
namespace Go.Proofs.YtpapdkhjdelfcabGreat
open Go.RowKit
set_option maxRecDepth 100000
set_option maxHeartbeats 4000000
def FR (l:List (Int×Int)):List Value:=l.flatMap fun b=>[.int .i64 b.1,.int .i64 b.2]
theorem TE (L:List (Int×Int)) (b:Int×Int):FR (L++[b])=FR L++[.int .i64 b.1,.int .i64 b.2]:=by simp [FR]
theorem N4 (l:List (Int×Int)) (j:Nat) (h:j<l.length):(FR l)[j * 2]?=some (.int .i64 l[j].1)∧(FR l)[j * 2+1]?=some (.int .i64 l[j].2):=by
 induction l generalizing j with
 |nil=>simp at h
 |cons b l ih=>
  cases j with
  |zero=>simp [FR]
  |succ j=>
   obtain ⟨h1,h2⟩:=ih j (by simpa using h);have e1:(j+1) * 2=j * 2+1+1:=by omega
   rw [e1];simp only [FR,List.flatMap_cons,List.cons_append,List.nil_append,List.getElem?_cons_succ] at h1 h2 ⊢;exact ⟨h1,h2⟩
def FV (base:Nat) (w:World) (v:Value) (B:List (Int×Int)):Prop:=w.ownsRow base 211 2 v B.length (FR B)
theorem FV.snoc {base:Nat} {w:World} {v:Value} {L:List (Int×Int)} {b:Int×Int} {n:Nat} (h:w.ownsRow base 211 2 v n (FR L++[.int .i64 b.1,.int .i64 b.2])) (hn:n=L.length+1):FV base w v (L++[b]):=by
 unfold FV;rw [TE,jO];subst hn;exact h
def SO (w:World) (L:List (Int×Int)) (e:Ending) (w':World):Prop:=∃v,e= .returned v∧Aa w w'∧FV w.heap.size w' v L
theorem Kb (w:World):IM w (.slice none 0 0) []:=Or.inl ⟨rfl,rfl,rfl⟩
theorem U3 (c:Ac) (B:List BK) (v:Value) (w:World) (hP:Am w v B) (hB:AL B) (hc:c.OK):
  Calls Tryz.prog 181 #[.agg c.cells,v] w (SO w (B.map (Cr c))):=by
 obtain ⟨i0,hi,hz0,hz1,hz2⟩:=info_parts Tryz.infoWay;obtain ⟨h8,hall⟩:=hB;obtain ⟨hs1,hs2,hk16⟩:3≤c.slots∧c.slots≤211∧c.key.size=16:=⟨hc.2.2.1,hc.2.2.2.1,hc.2.2.2.2.2.2.2.2.2.1⟩;obtain ⟨ao,cap,rfl,hcell⟩:=hP.open;have hW:∀k (h:k<B.length),(B.take (k+1)).map (Cr c)=(B.take k).map (Cr c)++[Cr c B[k]]:=fun k h=>by rw [jQ h,List.map_append];rfl
 have hF:∀b:BK,Cr c b=(Cv (Al c.key 111 [] b.1) c.slots,Cv (Al c.key 115 [] b.1) (c.slots - 1)+1):=fun _=>rfl
 have HE:Hid ((B.take B.length).map (Cr c)=B.map (Cr c)):=by rw [List.take_length];rfl
 generalize Cr c=wy at *;obtain ⟨alg,slots,points,probes,key,formats⟩:=c;simp only [Ac.cells] at *;clear hc;go_enter Tryz.func181,Tryz.ntmps181;go_wp2_with (first|(at_make;refine wpList_make_own _ rfl _ _ 206 rfl (w.heap.size+1) 211 i0 (.agg #[.int .i64 0,.int .i64 0]) 2 Tryz.underlying206 hi hz0 hz1 _ _ _ B.length rfl rfl ?b1 ?b2 ?b3 ?b4 ?_))
 case b1=>rfl
 case b2=>rw [hz2];omega
 case b3=>unfold maxLen;omega
 case b4=>simp
 intro w1 hown1 hgrow1;obtain ⟨wm,hwm⟩:∃wm,wm=w.alloc (.cells #[.int .i64 alg,.int .i64 slots,.int .i64 points,.int .i64 probes,.string key,.int .i64 formats] 34):=⟨_,rfl⟩;have hb1:Aa wm w1:=by rw [hwm];exact (jD _).grown hgrow1 (fun g hg=>by cases hg)
 have hown:FV (w.heap.size+1) w1 (.slice (some ⟨w.heap.size+1,0,none⟩) 0 B.length) []:=hown1;have m1:wm.cell? ⟨w.heap.size,1,none⟩=some (.int .i64 slots):=by rw [hwm];simp
 have m4:wm.cell? ⟨w.heap.size,4,none⟩=some (.string key):=by rw [hwm];simp
 have hwb:Aa w wm:=by rw [hwm];exact (jD w).step_alloc _
 have hsz:wm.heap.size=w.heap.size+1:=by rw [hwm];simp
 clear hgrow1 hown1 hwm;generalize (Value.slice (some ⟨w.heap.size+1,0,none⟩) 0 B.length)=v1 at *;go_wp2;go_loopg [5,15] B.length (fun r vL n wr=>Aa wm wr∧∃(k:Nat),r=B.length - k∧k≤B.length∧n= .int .i64 k∧FV (w.heap.size+1) wr vL ((B.take k).map wy))
 case atStart=>exact ⟨hb1,0,by omega,by omega,rfl,by simpa using hown⟩
 case round=>
  obtain ⟨hb,k,hr,hk,rfl,hL⟩:=hrel;have hwr:=hb.size;have hwl:w.heap.size<wr.heap.size:=by omega
  have hLl:((B.take k).map wy).length≤8:=by simp;omega
  have HO:=jp hL;have n1:=hb.cell m1;have n4:=hb.cell m4;clear hb1 hown hL;by_cases hlt:k<B.length
  ·obtain ⟨g,rfl,c0,c1⟩:=hcell k hlt;have c0':=(hwb.trans hb).cell c0;have c1':=(hwb.trans hb).cell c1;have HS:=jp (hW k hlt);have hid:=(hall _ (jJ hlt)).2.1;rw [hF] at HS;clear hcell c0 c1 hW hF;generalize B[k]=bk at *;obtain ⟨idk,wk⟩:=bk;simp only at c0' c1' HS hid;have hO:=fun wx=>F5 key 111 [] (.slice none 0 0) idk wx (Kb wx) (by decide) (by omega) (by omega)
   have hZ:=fun wx=>F5 key 115 [] (.slice none 0 0) idk wx (Kb wx) (by decide) (by omega) (by omega)
   have rO:=He key 111 [] idk;have rZ:=He key 115 [] idk;generalize Al key 111 [] idk=x1 at *;generalize Al key 115 [] idk=x2 at *;generalize (B.take k).map wy=L at *;obtain ⟨rO1,rO2⟩:=rO;obtain ⟨rZ1,rZ2⟩:=rZ;go_wp2_with fail;refine (hO _).mono ?_;rintro e w2 ⟨rfl,hb2⟩;have hbr:Aa wr w2:=Aa.trans (Aa.step_alloc (jD wr) _) hb2;have b0:w2.cell? ⟨wr.heap.size,0,none⟩=some (.string idk):=hb2.cell (by simp);have q1:=hbr.cell n1;have q4:=hbr.cell n4;clear hb2;go_wp2_with fail;refine (hZ _).mono ?_;rintro e w3 ⟨rfl,hb3⟩;have hbr3:Aa wr w3:=hbr.trans hb3;have s1:=hbr3.cell n1;have hbm3:Aa wm w3:=hb.trans hbr3
   have hO3 : Hid (FV (w.heap.size + 1) w3 u5 L) := World.ownsRow.kept HO.out (row := none) ⟨hbr3.below.os, hbr3.below.tape, hbr3.below.output, hbr3.size, fun k hk _ => hbr3.block k hk⟩ (by
     cases hv : u5.ownBlock
     · exact Or.inl rfl
     · exact Or.inr (by simp))
   have hw3:=hbm3.size;clear hO hZ hb3 q1 q4 b0 n1 n4 hbr hbr3 HO;go_wp2_with fail;have y1:=Kt x1 slots (by omega);have y2:=Kt x2 (slots - 1) (by omega);obtain ⟨y11,y12⟩:=y1;obtain ⟨y21,y22⟩:=y2;have hR1:=fun wx=>Kp x1 slots wx (by omega) (by omega) (by omega) (by omega)
   have hR2:=fun wx=>Kp x2 (slots - 1) wx (by omega) (by omega) (by omega) (by omega)
   generalize Cv x1 slots=r1 at *;generalize Cv x2 (slots - 1)=r2 at *;have hwa:IntKind.i64.wrap (slots - 1)=slots - 1:=by rw [IntKind.wrap_i64];omega
   have hwb2:IntKind.i64.wrap (r2+1)=r2+1:=by rw [IntKind.wrap_i64];omega
   go_region_held_law (fun w'=>Aa wm w'∧w'.cell? ⟨w.heap.size,1,none⟩=some (.int .i64 slots)) ((exact ⟨by solve_by_elim [jA,jB,jC,jD,jE],Aa.cell (a:=wm) (by solve_by_elim [jA,jB,jC,jD,jE]) m1⟩))
    ((first
      | (go_at_call_of 219 x1; refine (hR1 _).mono ?_; rintro e w4 ⟨rfl, rfl⟩)
      | (go_at_call_of 219 x2; refine (hR2 _).mono ?_; rintro e w4 ⟨rfl, rfl⟩)
      | (refine KB rfl (.tmp 29) (.tmp 41) 206 rfl (w.heap.size + 1) 211 i0 (.agg #[.int .i64 0, .int .i64 0]) 2 16 Tryz.underlying206 hi hz0 hz1 hz2 rfl (by decide) u5 L.length (FR L) (by simp [Act.eval]) (World.ownsRow.alloc hO3.out _) ⟨w3.heap.size, 0, none⟩ 1 1 [.int .i64 r1, .int .i64 (r2 + 1)] (by simp [Act.eval]) rfl (C8 _ _ _ _ _ rfl) (Df rfl rfl) (by unfold maxLen; omega) (by omega) (by simp; omega) ?_
         intro v5 w5 hown5 hgrow5
         have hb5 : Aa wm w5 := by
           first
           | exact ((hbm3.step_drew).step_alloc _).grown hgrow5 (fun g hg => by have := (World.ownsRow.lt hO3.out g hg).1; omega)
           | exact ((hbm3.step_alloc _).step_drew).grown hgrow5 (fun g hg => by have := (World.ownsRow.lt hO3.out g hg).1; omega)
         have H5 := jp (FV.snoc (b := (r1, r2 + 1)) hown5 rfl)
         clear hown5 hgrow5)))
   all_goals
    go_wp2_with fail;go_roundg (B.length - (k+1))
    case measure=>omega
    case rel=>exact ⟨hb5,k+1,rfl,by omega,by go_num,by rw [HS.out];exact H5.out⟩
  ·clear hcell;go_wp2;go_ret;exact ⟨_,rfl,hwb.trans hb,by have:=HO.out;rw [show k=B.length by omega,HE.out] at this;exact World.ownsRow.mono this (by omega)⟩
def BS (base:Nat) (w:World) (v:Value) (L:List Int):Prop:=w.ownsRow base 3 1 v L.length (L.map (Value.int .i64))
theorem BS.row {base:Nat} {w:World} {v:Value} {B:List Int} (h:BS base w v B):Hj w v B:=Ap.of_owns h
theorem BS.later {base:Nat} {w w':World} {v:Value} {B:List Int} (h:BS base w v B) (k:Aa w w'):BS base w' v B:=
 World.ownsRow.kept h (row := none) ⟨k.below.os, k.below.tape, k.below.output, k.size, fun j hj _ => k.block j hj⟩ (by
   cases hv : v.ownBlock
   · exact Or.inl rfl
   · exact Or.inr (by simp))
theorem BS.snoc {base:Nat} {w:World} {v:Value} {L:List Int} {b:Int} {n:Nat} (h:w.ownsRow base 3 1 v n (L.map (Value.int .i64)++[.int .i64 b])) (hn:n=L.length+1):BS base w v (L++[b]):=by
 unfold BS;rw [List.map_append,jO];subst hn;exact h
theorem Ir {base:Nat} {e:TypeId} {s:Nat} {w w':World} {v:Value} {n:Nat} {xs:List Value} {g:Nat} (h:w.ownsRow base e s v n xs) (hg:w.grownBy w' (some g)) (hne:v.ownBlock≠some g):w'.ownsRow base e s v n xs:=World.ownsRow.kept h hg (Or.inr hne)
def sl (g n cap:Nat):Value:= .slice (some ⟨g,0,none⟩) n cap
def Cj (base ga gb ca cb:Nat) (w:World) (La Lb:List Int):Prop:=BS base w (sl ga La.length ca) La∧BS base w (sl gb Lb.length cb) Lb∧ga≠gb
theorem Cj.later {base ga gb ca cb:Nat} {w w':World} {La Lb:List Int} (h:Cj base ga gb ca cb w La Lb) (k:Aa w w'):Cj base ga gb ca cb w' La Lb:=⟨h.1.later k,h.2.1.later k,h.2.2⟩
theorem Cj.app1 {base ga gb ca cb g cap:Nat} {w w':World} {La Lb:List Int} {x:Int} {n:Nat} (h:Cj base ga gb ca cb w La Lb) (hown:w'.ownsRow base 3 1 (.slice (some ⟨g,0,none⟩) n cap) n (La.map (Value.int .i64)++[.int .i64 x])) (hn:n=La.length+1) (hg:w.grownBy w' (some ga)) (hat:some ga=some g∨w.heap.size≤g):Cj base g gb cap cb w' (La++[x]) Lb:=by
 refine ⟨?_,Ir h.2.1 hg (fun e=>h.2.2 (by simpa [sl,Value.ownBlock] using e.symm)),?_⟩
 ·have:=BS.snoc (b:=x) hown hn;rw [sl,jO];subst hn;exact this
 ·have hlt:=(World.ownsRow.lt h.2.1 gb rfl).2;rcases hat with e|e
  ·simp at e;subst e;exact h.2.2
  ·omega
theorem Cj.app2 {base ga gb ca cb g cap:Nat} {w w':World} {La Lb:List Int} {x:Int} {n:Nat} (h:Cj base ga gb ca cb w La Lb) (hown:w'.ownsRow base 3 1 (.slice (some ⟨g,0,none⟩) n cap) n (Lb.map (Value.int .i64)++[.int .i64 x])) (hn:n=Lb.length+1) (hg:w.grownBy w' (some gb)) (hat:some gb=some g∨w.heap.size≤g):Cj base ga g ca cap w' La (Lb++[x]):=by
 refine ⟨Ir h.1 hg (fun e=>h.2.2 (by simpa [sl,Value.ownBlock] using e)),?_,?_⟩
 ·have:=BS.snoc (b:=x) hown hn;rw [sl,jO];subst hn;exact this
 ·have hlt:=(World.ownsRow.lt h.1 ga rfl).2;rcases hat with e|e
  ·simp at e;subst e;exact h.2.2
  ·omega
theorem Cj.set1 {base ga gb ca cb:Nat} {w:World} {La Lb:List Int} (h:Cj base ga gb ca cb w La Lb) (j:Nat) (x:Int):Cj base ga gb ca cb (w.setCell ⟨ga,j,none⟩ (.int .i64 x)) (La.set j x) Lb:=by
 have hs:=World.ownsRow.stored h.1 j (.int .i64 x);refine ⟨?_,Ir h.2.1 hs.2 (fun e=>h.2.2 (by simpa [sl,Value.ownBlock] using e.symm)),h.2.2⟩;unfold BS;rw [sl,List.length_set,List.map_set];exact hs.1
theorem Cj.set2 {base ga gb ca cb:Nat} {w:World} {La Lb:List Int} (h:Cj base ga gb ca cb w La Lb) (j:Nat) (x:Int):Cj base ga gb ca cb (w.setCell ⟨gb,j,none⟩ (.int .i64 x)) La (Lb.set j x):=by
 have hs:=World.ownsRow.stored h.2.1 j (.int .i64 x);refine ⟨Ir h.1 hs.2 (fun e=>h.2.2 (by simpa [sl,Value.ownBlock] using e)),?_,h.2.2⟩;unfold BS;rw [sl,List.length_set,List.map_set];exact hs.1
theorem Vm (R:List Int) (n:Nat): -1≤(A5 R n).1∧(A5 R n).1<n:=by
 induction n with
 |zero=>simp [A5]
 |succ n ih=>
  rw [A5];split
  ·exact ⟨by simp only;omega,by simp only;omega⟩
  ·omega
theorem Wg (R:List Int): -1≤C1 R∧C1 R<R.length:=Vm R R.length
def Nq (w:World) (L:List Int) (e:Ending) (w':World):Prop:=∃v,e= .returned v∧Aa w w'∧BS w.heap.size w' v L
theorem Ya (M:Int) (B:List BK) (v:Value) (w:World) (hP:Am w v B) (hB:AL B) (hM1:0≤M) (hM2:M≤300):
  Calls Tryz.prog 182 #[.int .i64 M,v] w (Nq w (CJ M B)):=by
 obtain ⟨i0,hi,hz0,hz1,hz2⟩:=info_parts Tryz.infoInt;have hTot:=fun wx hx=>Mx B v wx hx hB
 obtain ⟨h8,hall⟩:=hB;have hT2:=Kq B (fun b hb=>(hall b hb).2.2) B.length;rw [List.take_length] at hT2;obtain ⟨X,hX⟩:∃X,X=CJ M B:=⟨_,rfl⟩;rw [←hX];rw [CJ,Bi,CF] at hX;generalize As B=T at *;by_cases hT:T<1
 ·rw [if_pos hT] at hX;have HX:=jp hX;clear hX;go_enter Tryz.func182,Tryz.ntmps182;go_wp2_with fail;refine (hTot _ hP).mono ?_;rintro e w1 ⟨rfl,hb1⟩;go_wp2;go_ret;exact ⟨_,rfl,hb1,by rw [HX.out];exact World.ownsRow_nil _ _ _ _⟩
 rw [if_neg hT] at hX;have HX:=jp hX;clear hX;obtain ⟨ao,cap,rfl,hcell⟩:=hP.open;go_enter Tryz.func182,Tryz.ntmps182;go_wp2_with fail;refine (hTot _ hP).mono ?_;rintro e w0 ⟨rfl,hb0⟩;have hw0:=hb0.size;clear hTot;go_wp2_with (first|(at_make;refine wpList_make_own _ rfl _ _ 59 rfl w.heap.size 3 i0 (.int .i64 0) 1 Tryz.underlying59 hi hz0 hz1 _ _ _ B.length rfl rfl ?b1 ?b2 ?b3 ?b4 ?_))
 case b1=>rfl
 case b2=>first|omega|(rw [hz2];omega)
 case b3=>unfold maxLen;omega
 case b4=>exact hw0
 intro w1 hown1 hgrow1;have hb1:Aa w0 w1:=(jD _).grown hgrow1 (fun g hg=>by cases hg);have hw1:=(World.ownsRow.lt hown1 _ rfl).2;have hw01:=hb1.size;go_wp2_with (first|(at_make;refine wpList_make_own _ rfl _ _ 59 rfl w.heap.size 3 i0 (.int .i64 0) 1 Tryz.underlying59 hi hz0 hz1 _ _ _ B.length rfl rfl ?c1 ?c2 ?c3 ?c4 ?_))
 case c1=>rfl
 case c2=>first|omega|(rw [hz2];omega)
 case c3=>unfold maxLen;omega
 case c4=>omega
 intro w2 hown2 hgrow2;have hb2:Aa w1 w2:=(jD _).grown hgrow2 (fun g hg=>by cases hg);have hT0:Cj w.heap.size w0.heap.size w1.heap.size B.length B.length w2 [] []:=⟨BS.later (w:=w1) (B:=[]) hown1 hb2,hown2,by omega⟩;have hbb:Aa w w2:=hb0.trans (hb1.trans hb2);clear hown1 hown2 hgrow1 hgrow2 hb0 hb1 hb2 hw0 hw1 hw01;go_wp2;go_loopg [6,7,8,26] B.length (fun r va vb vl n wr=>Aa w wr∧∃(k ga gb ca cb:Nat) (La Lb:List Int) (lf:Int),r=B.length - k∧k≤B.length∧n= .int .i64 k∧va=sl ga La.length ca∧vb=sl gb Lb.length cb∧vl= .int .i64 lf∧Cj w.heap.size ga gb ca cb wr La Lb∧La=(B.take k).map (fun b=>M * b.2 / T)∧Lb=(B.take k).map (fun b=>M * b.2 % T)∧lf=M - La.sum∧(∀x∈La,0≤x∧x≤2000)∧M - 2000 * k≤lf∧lf≤M)
 case atStart=>exact ⟨hbb,0,_,_,_,_,[],[],M,by omega,by omega,rfl,rfl,rfl,rfl,hT0,rfl,rfl,by simp,by simp,by omega,by omega⟩
 case round=>
  obtain ⟨hb,k,ga,gb,ca,cb,La,Lb,lf,hr,hk,rfl,rfl,rfl,rfl,hT2',hLa,hLb,hlf,hbd,hlf1,hlf2⟩:=hrel;have hwr:=hb.size;have hLal:La.length=k:=by rw [hLa];simp;omega
  have hLbl:Lb.length=k:=by rw [hLb];simp;omega
  have HT:=jp hT2';have hLa8:La.length≤8:=by omega
  have hLb8:Lb.length≤8:=by omega
  have HLa:=jp hLal;have HLb:=jp hLbl;clear hT2' hT0 hbb hLal hLbl;by_cases hlt:k<B.length
  ·obtain ⟨g,rfl,c0,c1⟩:=hcell k hlt;have c0':=hb.cell c0;have c1':=hb.cell c1;obtain ⟨hw1,hw2⟩:=(hall _ (jJ hlt)).2.2
   have HA:Hid ((B.take (k+1)).map (fun b=>M * b.2 / T)=La++[M * B[k].2 / T]):=by
    show List.map _ _=_;rw [jQ hlt,List.map_append,hLa];rfl
   have HB:Hid ((B.take (k+1)).map (fun b=>M * b.2 % T)=Lb++[M * B[k].2 % T]):=by
    show List.map _ _=_;rw [jQ hlt,List.map_append,hLb];rfl
   have HLF:=jp hlf;clear hcell c0 c1 hlf hLa hLb;generalize B[k]=bk at *;obtain ⟨idk,wk⟩:=bk;simp only at c0' c1' HA HB hw1 hw2;have hm1:0≤M * wk:=Int.mul_nonneg hM1 hw1;have hm2:M * wk≤300 * 6:=Int.mul_le_mul hM2 hw2 hw1 (by omega);have hd1:0≤M * wk / T:=Int.ediv_nonneg hm1 (by omega);have hd2:M * wk / T≤M * wk:=Int.ediv_le_self _ hm1;have hTn:(T==0)=false:=by rw [jI];omega
   go_wp2_with (first|(at_builtin;refine wpList_append_lies _ rfl _ _ 59 rfl w.heap.size 3 i0 (.int .i64 0) 1 8 Tryz.underlying59 hi hz0 hz1 hz2 rfl (by decide) _ (La).length ((La).map (Value.int .i64)) rfl ?p1a ⟨wr.heap.size+1,0,none⟩ 1 1 [.int .i64 (M * wk / T)] rfl rfl ?da1 ?da2 (by decide) ?da3 ?da4 ?da5 _ rfl ?_))
   case p1a=>exact (World.ownsRow.alloc (World.ownsRow.alloc HT.out.1 _) _)
   try (case da1=>exact Fz _ _ _ _ (by simp))
   case da2=>first|rfl|(intro u hu;simp at hu;subst hu;rfl)
   case da3=>unfold maxLen;omega
   case da4=>omega
   case da5=>first|omega|(simp;omega)
   intro g1 cap1 w3 hown3 hgrow3 hat3 hlt3;have H3:=jp (Cj.app1 (Cj.later HT.out ((Aa.step_alloc (jD wr) _).step_alloc _)) hown3 rfl hgrow3 (hat3.imp id (fun e=>by rw [e];simp)));have hb3:Aa w w3:=((hb.step_alloc _).step_alloc _).grown hgrow3 (fun g hg=>(World.ownsRow.lt HT.out.1 g hg).1);have x1:w3.cell? ⟨wr.heap.size,1,none⟩=some (.int .i64 wk):=JD hgrow3 (by simp) (fun e=>by have:=(World.ownsRow.lt HT.out.1 _ e).2;simp at this);have hw3:=hb3.size;clear hown3 hgrow3 hat3 hlt3 HT;go_wp2_with (first|(at_builtin;refine wpList_append_lies _ rfl _ _ 59 rfl w.heap.size 3 i0 (.int .i64 0) 1 8 Tryz.underlying59 hi hz0 hz1 hz2 rfl (by decide) _ (Lb).length ((Lb).map (Value.int .i64)) rfl ?p1b ⟨w3.heap.size,0,none⟩ 1 1 [.int .i64 (M * wk % T)] rfl rfl ?db1 ?db2 (by decide) ?db3 ?db4 ?db5 _ rfl ?_))
   case p1b=>exact (World.ownsRow.alloc H3.out.2.1 _)
   try (case db1=>exact Fz _ _ _ _ (by simp))
   case db2=>first|rfl|(intro u hu;simp at hu;subst hu;rfl)
   case db3=>unfold maxLen;omega
   case db4=>omega
   case db5=>first|omega|(simp;omega)
   intro g2 cap2 w4 hown4 hgrow4 hat4 hlt4;have H4:=jp (Cj.app2 (Cj.later H3.out (Aa.step_alloc (jD w3) _)) hown4 rfl hgrow4 (hat4.imp id (fun e=>by rw [e];simp)));have hb4:Aa w w4:=(hb3.step_alloc _).grown hgrow4 (fun g hg=>(World.ownsRow.lt H3.out.2.1 g hg).1);clear hown4 hgrow4 hat4 hlt4 H3 x1;go_wp2;go_roundg (B.length - (k+1))
   case measure=>omega
   case rel=>
    refine ⟨hb4,k+1,g1,g2,cap1,cap2,La++[M * wk / T],Lb++[M * wk % T],lf - M * wk / T,rfl,by omega,by go_num,by simp [sl],by simp [sl],rfl,H4.out,HA.out.symm,HB.out.symm,?_,?_,by omega,by omega⟩
    ·rw [HLF.out];simp;omega
    ·intro x hx;rcases jT.1 hx with hx|hx
     ·exact hbd x hx
     ·simp at hx;subst hx;omega
  ·have hk2:B.take k=B:=jR (by omega);rw [hk2] at hLa hLb
   have HF:Hid (X=CI lf.toNat La Lb):=by
    show X=_;rw [HX.out,hlf,hLa,hLb]
   clear hcell hk2 hLa hLb hlf HX;unfold sl;go_wp2;have hTw:=HT.out;have hlb:La.length=Lb.length:=by rw [HLa.out,HLb.out]
   generalize hna:La.length=na at *;rw [←hlb];go_loopg [8] lf.toNat (fun r vl wz=>Aa w wz∧∃(l:Int) (S R:List Int),r=l.toNat∧vl= .int .i64 l∧Cj w.heap.size ga gb ca cb wz S R∧S.length=na∧R.length=na∧X=CI l.toNat S R∧l≤300∧ -20000≤l∧∀x∈S,0≤x∧x≤20000 - l)
   case atStart=>exact ⟨hb,lf,La,Lb,rfl,rfl,hTw,hna,hlb.symm,HF.out,by omega,by omega,fun x hx=>by have:=hbd x hx;omega⟩
   case round=>
    obtain ⟨hbz,l,S,R,hr2,rfl,hTz,hSl,hRl,hXz,hl1,hl2,hbz2⟩:=hrel;have HXZ:=jp hXz;have HB2:=jp hbz2;have HTZ:=jp hTz;have HSl:=jp hSl;have HRl:=jp hRl;have hwz:=hbz.size;clear hXz hbz2 HT hTw HF hbd HLa HLb hTz hlb hna hSl hRl;by_cases hl0:0<l
    ·obtain ⟨n,hn⟩:∃n:Nat,l.toNat=n+1:=⟨l.toNat - 1,by omega⟩;have hgr:=Qe R (sl gb R.length cb) _ HTZ.out.2.1.row (by rw [HRl.out];omega);have hrg:=Wg R;rw [HRl.out] at hgr hrg
     have HG:Hid (X=if C1 R<0 then S else CI n (S.set (C1 R).toNat (S.getD (C1 R).toNat 0+1)) (R.set (C1 R).toNat (-1))):=by
      show X=_;rw [HXZ.out,hn];rfl
     clear HXZ;generalize C1 R=bi at *;obtain ⟨hbi1,hbi2⟩:=hrg;unfold sl at hgr;have HN:=jp hn;clear hn;by_cases hneg:bi<0
     ·rw [if_pos hneg] at HG;go_wp2_with fail;refine hgr.mono ?_;rintro e w5 ⟨rfl,hb5⟩;go_wp2;go_ret;exact ⟨_,rfl,hbz.trans hb5,by rw [HG.out];have:=(HTZ.out.1.later hb5);unfold sl at this;rw [HSl.out] at this;exact this⟩
     ·rw [if_neg hneg] at HG;obtain ⟨j,hj⟩:∃j:Nat,bi=(j:Int):=⟨bi.toNat,by omega⟩;subst hj;have hjn:j<na:=by omega
      go_wp2_with fail;refine hgr.mono ?_;rintro e w5 ⟨rfl,hb5⟩;have hT5:=HTZ.out.later hb5;have hjS:j<S.length:=by rw [HSl.out];exact hjn
      have k1:w5.cell? ⟨ga,j,none⟩=some (.int .i64 S[j]):=by
       rw [World.ownsRow.cellAt hT5.1 j (by omega)];simp [hjS]
      have k2:=World.ownsRow.frozenAt hT5.1 j
      have k3:∃y,w5.cell? ⟨gb,j,none⟩=some y:=by
       have hjR:j<R.length:=by rw [HRl.out];exact hjn
       exact ⟨_,by rw [World.ownsRow.cellAt hT5.2.1 j (by omega),List.getElem?_map,jG hjR];rfl⟩
      have k4:=World.ownsRow.frozenAt hT5.2.1 j;obtain ⟨y,k3⟩:=k3;have hne:=hT5.2.2;have hSj:=HB2.out _ (jJ hjS);have HJ:Hid (S.getD j 0=S[j]):=by show S.getD j 0=S[j];rw [jV,jG hjS];rfl
      have H5:=jp ((hT5.set1 j (S[j]+1)).set2 j (-1));generalize S[j]=sj at *;have hga:=(World.ownsRow.lt hT5.1 ga rfl).1;have hgb:=(World.ownsRow.lt hT5.2.1 gb rfl).1;clear hT5 HTZ hgr;go_wp2;go_roundg (l - 1).toNat
      case measure=>omega
      case rel=>
       refine ⟨((hbz.trans hb5).step_set hga _).step_set hgb _,l - 1,S.set j (sj+1),R.set j (-1),rfl,rfl,H5.out,by rw [List.length_set];exact HSl.out,by rw [List.length_set];exact HRl.out,?_,by omega,by omega,?_⟩
       ·rw [HG.out,show (l - 1).toNat=n from by have:=HN.out;omega];simp only [Int.toNat_natCast];rw [HJ.out]
       ·intro x hx;rcases List.mem_or_eq_of_mem_set hx with hx|rfl
        ·have:=HB2.out x hx;omega
        ·omega
    ·have HG:Hid (X=S):=by
      show X=S;rw [HXZ.out,show l.toNat=0 by omega];rfl
     go_wp2
     go_ret
     exact ⟨_,rfl,hbz,by rw [HG.out];have:=HTZ.out.1;unfold sl at this;rw [HSl.out] at this;exact this⟩
def Gl (base g cap:Nat) (w:World) (S:List Int):Prop:=w.ownsRow base 116 2 (sl g S.length cap) S.length (Bf (BF S))
theorem YV (S:List Int) (k:Nat) (x:Int):Bf (BF (S.set k x))=(Bf (BF S)).set (k * 2+1) (.int .i64 x):=by
 induction S generalizing k with
 |nil=>simp [BF,Bf]
 |cons s S ih=>
  cases k with
  |zero=>simp [BF,Bf]
  |succ k=>
   have e:(k+1) * 2+1=k * 2+1+1+1:=by omega
   have:=ih k;simp only [BF,Bf,List.set_cons_succ,List.map_cons,List.flatMap_cons,List.cons_append,List.nil_append,e] at this ⊢;rw [this]
theorem Gl.set {base g cap:Nat} {w:World} {S:List Int} (h:Gl base g cap w S) (k:Nat) (x:Int):Gl base g cap (w.setCell ⟨g,k * 2+1,none⟩ (.int .i64 x)) (S.set k x):=by
 have hs:=World.ownsRow.stored h (k * 2+1) (.int .i64 x);unfold Gl;rw [YV,sl,List.length_set];exact hs.1
theorem Gl.ents {base g cap:Nat} {w:World} {S:List Int} (h:Gl base g cap w S):AR w (sl g S.length cap) (BF S):=by
 have:=Ap.of_owns h;unfold AR;rw [Gp];exact this
theorem BG {base:Nat} {e:TypeId} {s:Nat} {w w':World} {v:Value} {n:Nat} {xs:List Value} (h:w.ownsRow base e s v n xs) (k:Aa w w'):w'.ownsRow base e s v n xs:=
 World.ownsRow.kept h (row := none) ⟨k.below.os, k.below.tape, k.below.output, k.size, fun j hj _ => k.block j hj⟩ (by
   cases hv : v.ownBlock
   · exact Or.inl rfl
   · exact Or.inr (by simp))
theorem Tb (n:Nat) (s r:List Int):(CI n s r).length=s.length:=by
 induction n generalizing s r with
 |zero=>rfl
 |succ n ih=>
  rw [CI];split
  ·rfl
  ·rw [ih,List.length_set]
theorem M4 (M:Int) (B:List BK) (h:1≤As B):(CJ M B).length=B.length:=by
 rw [CJ,if_neg (by omega),Tb,Bi,je]
theorem Sd (W:List (Int×Int)) (S:List Int) (i:Nat):(FP W S i).length=S.length:=by
 unfold FP;split
 ·rw [List.length_set]
 ·rfl
theorem OR (W:List (Int×Int)) (sh:List Int) (r:Nat) (S:List Int) (n:Nat):(Bu W sh r S n).length=S.length:=by
 induction n with
 |zero=>rfl
 |succ n ih=>
  rw [Bu];split
  ·exact ih
  ·rw [Sd,ih]
theorem MA (W:List (Int×Int)) (sh:List Int) (S:List Int) (n:Nat):(CD W sh S n).length=S.length:=by
 induction n with
 |zero=>rfl
 |succ n ih=>rw [CD,OR,ih]
theorem QN (c:Ac) (b:BK) (hs:3≤c.slots) (hs2:c.slots≤211):(0≤(Cr c b).1∧(Cr c b).1<c.slots)∧1≤(Cr c b).2∧(Cr c b).2<c.slots:=by
 have h1:=Kt (Al c.key 111 [] b.1) c.slots (by omega);have h2:=Kt (Al c.key 115 [] b.1) (c.slots - 1) (by omega);refine ⟨h1,?_,?_⟩<;>simp only [Cr] <;>omega
theorem T3 {S:List Int} {y:Int×Int} {j:Nat} (h:EF S y=some j):j<S.length:=by
 have hm:=List.mem_of_find?_eq_some h;obtain ⟨i,hi,rfl⟩:=List.mem_map.1 hm;have:i<S.length:=by simpa using hi
 exact K9 y i (by omega)
def Jp (w:World) (L:List EI) (e:Ending) (w':World):Prop:=∃v,e= .returned v∧Aa w w'∧AS w.heap.size w' v L
def F6 (w w1:World) (g cap:Nat) (vW vS:Value) (W:List (Int×Int)) (sh:List Int) (S:List Int) (wr:World):Prop:=
 Aa w wr∧Gl (w.heap.size+1) g cap wr S∧FV w1.heap.size wr vW W∧BS w1.heap.size wr vS sh∧g<w1.heap.size
theorem F6.later {w w1:World} {g cap:Nat} {vW vS:Value} {W:List (Int×Int)} {sh S:List Int} {wr wx:World} (h:F6 w w1 g cap vW vS W sh S wr) (k:Aa wr wx):F6 w w1 g cap vW vS W sh S wx:=
 ⟨h.1.trans k,BG h.2.1 k,BG h.2.2.1 k,BG h.2.2.2.1 k,h.2.2.2.2⟩
theorem F6.set {w w1:World} {g cap:Nat} {vW vS:Value} {W:List (Int×Int)} {sh S:List Int} {wr:World} (h:F6 w w1 g cap vW vS W sh S wr) (k:Nat) (x:Int):F6 w w1 g cap vW vS W sh (S.set k x) (wr.setCell ⟨g,k * 2+1,none⟩ (.int .i64 x)):=by
 have hg:=(World.ownsRow.lt h.2.1 g rfl).1;exact ⟨h.1.step_set (by simp only;omega) _,h.2.1.set k x,ownsRow_setCell_below h.2.2.1 h.2.2.2.2 _,ownsRow_setCell_below h.2.2.2.1 h.2.2.2.2 _,h.2.2.2.2⟩
theorem Up (c:Ac) (B:List BK) (v:Value) (w:World) (hP:Am w v B) (hB:AL B) (hc:c.OK) (hT:1≤As B):
  Calls Tryz.prog 141 #[.agg c.cells,v] w (Jp w (BF (F3 c B))):=by
 obtain ⟨i0,hi,hz0,hz1,hz2⟩:=info_parts Tryz.infoEI;have hways:=fun wx hx=>U3 c B v wx hx hB hc
 obtain ⟨hs1,hs2,hk16⟩:3≤c.slots∧c.slots≤211∧c.key.size=16:=⟨hc.2.2.1,hc.2.2.2.1,hc.2.2.2.2.2.2.2.2.2.1⟩;have Al:=fun wx hx=>Ya c.slots B v wx hx hB (by omega) (by omega)
 have hshl:=M4 c.slots B hT;have h8:=hB.1
 have hwy:∀y∈B.map (Cr c),(0≤y.1∧y.1≤300)∧0≤y.2∧y.2≤300:=by
  intro y hy;obtain ⟨b,_,rfl⟩:=List.mem_map.1 hy;have:=QN c b hs1 hs2;omega
 have hWl:(B.map (Cr c)).length=B.length:=by simp
 obtain ⟨M,hM⟩:∃M:Nat,c.slots=(M:Int):=⟨c.slots.toNat,by omega⟩;obtain ⟨X,hX⟩:∃X,X=F3 c B:=⟨_,rfl⟩;rw [←hX];rw [F3,hM,Int.toNat_natCast] at hX;rw [hM] at Al hshl;generalize CJ (M:Int) B=sh at *;generalize B.map (Cr c)=W at *;have HX:=jp hX;obtain ⟨alg,slots,points,probes,key,formats⟩:=c;simp only [Ac.cells] at *;subst hM;clear hc hX hB;go_enter Tryz.func141,Tryz.ntmps141;go_wp2;obtain ⟨wm,hwm⟩:∃wm,wm=w.alloc (.cells #[.int .i64 alg,.int .i64 (M:Int),.int .i64 points,.int .i64 probes,.string key,.int .i64 formats] 34):=⟨_,rfl⟩;have m0:wm.cell? ⟨w.heap.size,0,none⟩=some (.int .i64 alg):=by rw [hwm];simp
 have m1:wm.cell? ⟨w.heap.size,1,none⟩=some (.int .i64 (M:Int)):=by rw [hwm];simp
 have m2:wm.cell? ⟨w.heap.size,2,none⟩=some (.int .i64 points):=by rw [hwm];simp
 have m3:wm.cell? ⟨w.heap.size,3,none⟩=some (.int .i64 probes):=by rw [hwm];simp
 have m4:wm.cell? ⟨w.heap.size,4,none⟩=some (.string key):=by rw [hwm];simp
 have m5:wm.cell? ⟨w.heap.size,5,none⟩=some (.int .i64 formats):=by rw [hwm];simp
 have hwb:Aa w wm:=by rw [hwm];exact (jD w).step_alloc _
 have hsz:wm.heap.size=w.heap.size+1:=by rw [hwm];simp
 rw [←hwm];clear hwm;go_loopg [5,6] M (fun r vL n wr=>Aa wm wr∧∃(k:Nat),r=M - k∧k≤M∧n= .int .i64 k∧AS (w.heap.size+1) wr vL (BF (List.replicate k (-1))))
 case atStart=>exact ⟨jD _,0,by omega,by omega,rfl,World.ownsRow_nil _ _ _ _⟩
 case round=>
  obtain ⟨hb,k,hr,hk,rfl,hL⟩:=hrel;have hwr:=hb.size;have hwl:w.heap.size<wr.heap.size:=by omega
  have n1:=hb.cell m1;have hk300:k≤300:=by omega
  have HO:=jp hL;clear hL;by_cases hlt:k<M
  ·have hLl:(BF (List.replicate k (-1))).length=k:=by rw [Gp,List.length_replicate]
   have HS:Hid (BF (List.replicate (k+1) (-1))=BF (List.replicate k (-1))++[(0, -1)]):=by
    show BF _=_;rw [List.replicate_succ',BF,List.map_append];rfl
   generalize BF (List.replicate k (-1))=L at *;have hLk:L.length≤300:=by omega
   have HLl:=jp hLl;clear hLl;go_wp2_with (first|(at_builtin;refine wpList_append_own _ rfl _ _ 64 rfl (w.heap.size+1) 116 i0 (.agg #[.int .u64 0,.int .i64 0]) 2 16 Tryz.underlying64 hi hz0 hz1 hz2 rfl (by decide) _ L.length (Bf L) rfl ?p1 ⟨wr.heap.size,0,none⟩ 1 1 [.int .u64 0,.int .i64 (-1)] rfl rfl ?d1 ?d2 ?d3 ?d4 ?d5 ?_))
   case p1=>exact World.ownsRow.alloc HO.out _
   try (case d1=>exact C8 _ _ _ _ _ (by simp))
   case d2=>first|exact ⟨rfl,rfl⟩|exact Df rfl rfl
   case d3=>unfold maxLen;omega
   case d4=>omega
   case d5=>first|omega|(simp;omega)
   intro v2 w2 hown2 hgrow2 _;have hb2:Aa wm w2:=(hb.step_alloc _).grown hgrow2 (fun g hg=>by have:=(World.ownsRow.lt HO.out g hg).1;omega);have H2:=jp (AS.snoc (b:=(0, -1)) hown2 rfl);clear hown2 hgrow2;go_wp2;go_roundg (M - (k+1))
   case measure=>omega
   case rel=>exact ⟨hb2,k+1,rfl,by omega,by go_num,by rw [HS.out];exact H2.out⟩
  ·obtain rfl:k=M:=by omega
   have hLl:(BF (List.replicate k (-1))).length=k:=by rw [Gp,List.length_replicate]
   obtain ⟨g,cap,hv5,hg1,hg2⟩:=World.ownsRow.form HO.out (by rw [hLl];omega);subst hv5;rw [hLl] at HO ⊢;have n0:=hb.cell m0;have n2:=hb.cell m2;have n3:=hb.cell m3;have n4:=hb.cell m4;have n5:=hb.cell m5;have hbw:=hwb.trans hb;go_wp2_with fail;refine (hways _ (hP.later hbw)).mono ?_;rintro e w2 ⟨vW,rfl,hb2,hW2⟩;have p1:=hb2.cell n1;go_wp2_with fail;refine (Al _ (hP.later (hbw.trans hb2))).mono ?_;rintro e w3 ⟨vS,rfl,hb3,hS3⟩;have hw23:=hb2.size;obtain ⟨wb,hwbr⟩:∃wb,wb=wr:=⟨_,rfl⟩
   have hMag:F6 w wb g cap vW vS W sh (List.replicate k (-1)) w3:=by
    rw [hwbr];refine ⟨hbw.trans (hb2.trans hb3),?_,BG hW2 hb3,World.ownsRow.mono hS3 hw23,hg2⟩;have:=BG HO.out (hb2.trans hb3);unfold Gl sl;rw [List.length_replicate];simpa [hLl] using this
   have p1:=hb3.cell p1;have hb13:=hb2.trans hb3
   obtain ⟨aW,capW,hvW,hcW⟩:∃aW cW,vW= .slice aW B.length cW∧∀wx,FV wb.heap.size wx vW W→∀j (hj:j<W.length),∃gw,aW=some ⟨gw,0,none⟩∧wx.cell? ⟨gw,j * 2,none⟩=some (.int .i64 W[j].1)∧wx.cell? ⟨gw,j * 2+1,none⟩=some (.int .i64 W[j].2):=by
    obtain ⟨gw, cw, hv, _, _⟩ := World.ownsRow.form hW2 (by rw [hWl]; exact Nat.pos_of_ne_zero (fun e => by
      have : B = [] := jS e
      subst this; simp [As] at hT))
    rw [hWl] at hv;refine ⟨_,cw,hv,fun wx hx j hj=>⟨gw,rfl,?_,?_⟩⟩
    ·have:=World.ownsRow.cells hx (g:=gw) (by rw [hv];rfl) (j * 2) _ (N4 W j hj).1;rwa [show (⟨gw,0,none⟩:Addr).add (j * 2)=⟨gw,j * 2,none⟩ by unfold Addr.add;split <;>simp_all] at this
    ·have:=World.ownsRow.cells hx (g:=gw) (by rw [hv];rfl) (j * 2+1) _ (N4 W j hj).2;rwa [show (⟨gw,0,none⟩:Addr).add (j * 2+1)=⟨gw,j * 2+1,none⟩ by unfold Addr.add;split <;>simp_all] at this
   obtain ⟨aS,capS,hvS,hcS⟩:∃aS cS,vS= .slice aS B.length cS∧∀wx,BS wb.heap.size wx vS sh→∀j (hj:j<sh.length),∃gs,aS=some ⟨gs,0,none⟩∧wx.cell? ⟨gs,j,none⟩=some (.int .i64 sh[j]):=by
    obtain ⟨gs, cs, hv, _, _⟩ := World.ownsRow.form hS3 (by rw [hshl]; exact Nat.pos_of_ne_zero (fun e => by
      have : B = [] := jS e
      subst this; simp [As] at hT))
    rw [hshl] at hv;refine ⟨_,cs,hv,fun wx hx j hj=>⟨gs,rfl,?_⟩⟩;have:=World.ownsRow.cells hx (g:=gs) (by rw [hv];rfl) j (.int .i64 sh[j]) (by simp [hj]);rwa [show (⟨gs,0,none⟩:Addr).add j=⟨gs,j,none⟩ by unfold Addr.add;split <;>simp_all] at this
   subst hvW;subst hvS;clear hwbr n0 n2 n3 n4 n5 hb2 hb3 hW2 hS3 hways Al HO hLl hw23 m0 m1 m2 m3 m4 m5;go_wp2;clear hk hr hlt hk300 hwr hwl hbw hb13 n1;obtain ⟨S0,hS0⟩:∃S0:List Int,S0=List.replicate k (-1):=⟨_,rfl⟩;have hS0l:S0.length=k:=by rw [hS0];simp
   rw [←hS0] at HX hMag;clear hS0;go_loopg [9] k (fun r n wr=>∃q:Nat,r=k - q∧q≤k∧n= .int .i64 q∧F6 w wb g cap (.slice aW B.length capW) (.slice aS B.length capS) W sh (CD W sh S0 q) wr∧wr.cell? ⟨w.heap.size,1,none⟩=some (.int .i64 (k:Int)))
   case atStart=>exact ⟨0,by omega,by omega,rfl,hMag,p1⟩
   case round=>
    obtain ⟨q,hr2,hq,rfl,hMg,o1⟩:=hrel;have HM:=jp hMg;clear hMg hMag p1;by_cases hlt:q<k
    ·have hd:decide ((q:Int)<(k:Int))=true:=jL (by omega);have HF:Hid (CD W sh S0 (q+1)=Bu W sh q (CD W sh S0 q) sh.length):=rfl;have hSq:(CD W sh S0 q).length=k:=by rw [MA,hS0l]
     have HX2:=HX;generalize CD W sh S0 q=Sq at *;go_wp2;go_loopg [38] sh.length (fun r n wr=>∃i:Nat,r=sh.length - i∧i≤sh.length∧n= .int .i64 i∧F6 w wb g cap (.slice aW B.length capW) (.slice aS B.length capS) W sh (Bu W sh q Sq i) wr∧wr.cell? ⟨w.heap.size,1,none⟩=some (.int .i64 (k:Int)))
     case atStart=>exact ⟨0,by omega,by omega,rfl,HM.out,o1⟩
     case round=>
      obtain ⟨i,hr3,hi3,rfl,hMi,o2⟩:=hrel;by_cases hil:i<sh.length
      ·have hil2:i<B.length:=by omega
       have hiW:i<W.length:=by omega
       obtain ⟨gs,haS,s0⟩:=hcS _ hMi.2.2.2.1 i hil;obtain ⟨gw,haW,y0,y1⟩:=hcW _ hMi.2.2.1 i hiW;obtain ⟨⟨hy1,hy2⟩,hy3,hy4⟩:=hwy _ (jJ hiW)
       have HR:Hid (Bu W sh q Sq (i+1)=if sh[i]≤q then Bu W sh q Sq i else FP W (Bu W sh q Sq i) i):=by
        show Bu W sh q Sq (i+1)=_;rw [Bu,jV,jG hil];rfl
       have hRl:(Bu W sh q Sq i).length=k:=by rw [OR,hSq]
       have hff:=fun wx hx=>VI (Bu W sh q Sq i) (sl g (Bu W sh q Sq i).length cap) W[i] wx hx (by omega) hy1 hy2 hy3 hy4
       have HT:Hid (FP W (Bu W sh q Sq i) i=match EF (Bu W sh q Sq i) W[i] with|some k=>(Bu W sh q Sq i).set k i|none=>Bu W sh q Sq i):=by
        show FP _ _ _=_;rw [FP,jV,jG hiW];rfl
       have HMi:=jp hMi;have hff:=hff _ hMi.2.1.ents;have hfl:=fun j=>T3 (S:=Bu W sh q Sq i) (y:=W[i]) (j:=j)
       rw [hRl] at hff hfl;unfold sl at hff;clear hMi;generalize Bu W sh q Sq i=Si at *;generalize W[i]=yw at *;generalize sh[i]=shi at *;obtain ⟨yo,yk⟩:=yw;simp only at y0 y1 hff HT hy1 hy2 hy3 hy4;subst haS;subst haW;by_cases hge:shi≤(q:Int)
       ·rw [if_pos hge] at HR;have hdg:decide ((q:Int)≥shi)=true:=jL hge;go_wp2;go_roundg (sh.length - (i+1))
        case measure=>omega
        case rel=>exact ⟨i+1,rfl,by omega,by go_num,by rw [HR.out];exact HMi.out,o2⟩
       ·rw [if_neg hge,HT.out] at HR;have hdg:decide ((q:Int)≥shi)=false:=jK hge;generalize EF Si (yo,yk)=ff at *;go_wp2_with fail;refine hff.mono ?_;rintro e w5 ⟨rfl,hb5⟩;have o5:=hb5.cell o2;have HM5:=jp (HMi.out.later hb5);cases ff with
        |none=>
         simp only [Hr];simp only at HR;go_wp2;go_roundg (sh.length - (i+1))
         case measure=>omega
         case rel=>exact ⟨i+1,rfl,by omega,by go_num,by rw [HR.out];exact HM5.out,o5⟩
        |some j=>
         have hj:=hfl j rfl;simp only [Hr];simp only at HR
         have k1:∃y,w5.cell? ⟨g,j * 2+1,none⟩=some y:=by
          have hjl:j<(BF Si).length:=by rw [Gp,hRl];exact hj
          exact ⟨_,by rw [World.ownsRow.cellAt HM5.out.2.1 (j * 2+1) (by rw [hRl];omega)];exact (JZ _ j hjl).2⟩
         have k2:=World.ownsRow.frozenAt HM5.out.2.1 (j * 2+1);obtain ⟨y,k1⟩:=k1;have hgw:w.heap.size+1≤g:=(World.ownsRow.lt HM5.out.2.1 g rfl).1;go_wp2;go_roundg (sh.length - (i+1))
         case measure=>omega
         case rel=>exact ⟨i+1,rfl,by omega,by go_num,by rw [HR.out];exact HM5.out.set j _,by rw [Ad (by simp;omega)];exact o5⟩
      ·obtain rfl:i=sh.length:=by omega
       have HMi:=jp hMi;clear hMi;go_wp2;go_roundg (k - (q+1))
       case measure=>omega
       case rel=>exact ⟨q+1,rfl,by omega,by go_num,by rw [HF.out];exact HMi.out,o2⟩
    ·obtain rfl:q=k:=by omega
     have HFi:=jp HM.out.2.1;have hbf:=HM.out.1;rw [←HX.out] at HFi;have hXl:X.length=q:=by rw [HX.out,MA,hS0l]
     go_wp2;go_ret;exact ⟨_,rfl,hbf,by have:=HFi.out;unfold Gl at this;unfold AS;rw [Gp];rw [sl,hXl] at this;rw [hXl];exact World.ownsRow.mono this (by omega)⟩
end Go.Proofs.YtpapdkhjdelfcabGreat
