import Derived.Test.YtpapdkhjdelfcabGreatLBA
namespace Go.Proofs.YtpapdkhjdelfcabGreat
open Go.RowKit
set_option maxRecDepth 100000
set_option maxHeartbeats 4000000
theorem YP {a b c d:Int} (ha:BC a) (hb:BC b) (hc:BC c) (hd:BC d):Be (Be a b) (Be c d)=bits .xor .u64 (bits .xor .u64 (bits .xor .u64 a b) c) d:=by
 rw [←Ri (ML ha hb) hc hd];rfl
theorem Du.u64 {w:World} {b:Nat} {s:S4} (h:Du w b s):BC s.a∧BC s.b∧BC s.c∧BC s.d:=by
 obtain ⟨x0,x1,x2,x3,x4,x5,x6,x7,⟨h0,h1,h2,h3,h4,h5,h6,h7⟩, -,e0,e1,e2,e3⟩:=h;exact ⟨e0 ▸ Ks h0 h1,e1 ▸ Ks h2 h3,e2 ▸ Ks h4 h5,e3 ▸ Ks h6 h7⟩
theorem Rp (s:S4):s.rounds 4=s.round.round.round.round:=rfl
theorem F2 (key t:ByteArray) (w:World) (hk:key.size=16) (ht:t.size≤1099511627776):
  Calls Tryz.prog 166 #[.string key,.string t] w (Gx w (Gv (Cs key t))):=by
 obtain ⟨i0,hi,hz0,hz1,hz2⟩:=info_parts Tryz.infoWord;obtain ⟨SUM,hSUM⟩:∃X,X=Cs key t:=⟨_,rfl⟩;rw [←hSUM];have HSUM:=jp hSUM;obtain ⟨K,hK⟩:∃X,X=BE key 0:=⟨_,rfl⟩;obtain ⟨L,hL⟩:∃X,X=BE key 8:=⟨_,rfl⟩;have HK:=jp hK;have HL:=jp hL;have HKU:Hid (BC K):=by show BC K;rw [hK];exact OA _ _
 have HLU:Hid (BC L):=by show BC L;rw [hL];exact OA _ _
 have hx1:(key.extract 0 8).size=8:=by simp;omega
 have hw1:BE (key.extract 0 8) 0=K:=by rw [hK];exact MN key 0 8 (by omega) (by omega)
 have hx2:(key.extract 8 16).size=8:=by simp;omega
 have hw2:BE (key.extract 8 16) 0=L:=by rw [hL];exact MN key 8 16 (by omega) (by omega)
 have r1:=fun wx=>LD (key.extract 0 8) wx hx1
 have r2:=fun wx=>LD (key.extract 8 16) wx hx2
 rw [hw1] at r1;rw [hw2] at r2;clear hK hL hSUM hw1 hw2 hx1 hx2;go_enter Tryz.func166,Tryz.ntmps166;go_wp2_with fail;refine (r1 _).mono ?_;rintro e w1 ⟨k0,k1,rfl,hb1,hk0,hk1,ek⟩;have hbx0:BM w.heap.size w1 (.pointer (some ⟨w.heap.size,0,none⟩)):=(BM.new (jH _) (x:=0) (y:=0) ⟨by decide,by decide⟩ ⟨by decide,by decide⟩ 181).later hb1;have hbw1:Aa w w1:=(Aa.step_alloc (jD w) _).trans hb1;have S1:AP w1 [(.pointer (some ⟨w1.heap.size,0,none⟩),K)] (w1.alloc (.cells #[.int .i64 k0,.int .i64 k1] 181)):=(AP.nil w1).more (Aa.step_alloc (jD _) _) (AX.new (jH _) hk0 hk1 ek _) (jH _);clear hb1 r1;go_wp2_with fail;have hs8:key.extract 8 key.size=key.extract 8 16:=by rw [hk]
 first|rw [hs8]|skip
 refine (r2 _).mono ?_;rintro e w2 ⟨l0,l1,rfl,hb2,hl0,hl1,el⟩;have S2:AP w1 [(.pointer (some ⟨w1.heap.size,0,none⟩),K),(.pointer (some ⟨w2.heap.size,0,none⟩),L)] (w2.alloc (.cells #[.int .i64 l0,.int .i64 l1] 181)):=(S1.later hb2).more (Aa.step_alloc (jD _) _) (AX.new (S1.later hb2).1.size hl0 hl1 el _) (jH _);clear hb2 S1 r2 ek el;go_wp2;go_loopg [8,9] 4 (fun g v i wr=>∃(k:Nat) (xs:List (Int×Int)),g=4 - k∧k≤4∧i= .int .i64 k∧xs.length=k∧(∀p∈xs,Af p.1∧Af p.2)∧Jt w1 K L (.pointer (some ⟨w1.heap.size,0,none⟩)) (.pointer (some ⟨w2.heap.size,0,none⟩)) (w2.heap.size+1) v k xs wr)
 case atStart=>exact ⟨0,[],rfl,by omega,rfl,rfl,fun p hp=>by simp at hp,_,S2.later (by (repeat (first|exact jD _|assumption|refine jA ?_|refine jB ?_|refine jC ?_|refine Aa.step_set ?_ (by simp <;>omega) _|refine jE ?_ (by assumption)))),W8 _ _ _ _ _ rfl rfl rfl rfl (by decide) (by decide) (by decide) (by decide) _ _ (by simp),jD _,World.ownsRow_nil _ _ _ _,rfl⟩
 case round=>
  obtain ⟨k,xs,hg,hk4,rfl,hxl,hxs,S,hbx0',hnm0,hSb,hown,hval⟩:=hrel;clear S2;have hbx:=hbx0'.later hSb;have hnm:=hnm0.later hSb;have HVAL:=jp hval;clear hval;by_cases hlt:k<4
  ·obtain ⟨s,hs8',hsc,hsn⟩:=hnm k hlt;obtain ⟨pk,kx,ky,ek,hpk,ck0,ck1,fk0,fk1,hkx,hky,hkv⟩:=hbx.2.1 (.pointer (some ⟨w1.heap.size,0,none⟩),K) (by simp);obtain ⟨pl,lx,ly,el,hpl,cl0,cl1,fl0,fl1,hlx,hly,hlv⟩:=hbx.2.1 (.pointer (some ⟨w2.heap.size,0,none⟩),L) (by simp);simp only [Value.pointer.injEq,Option.some.injEq,Addr.mk.injEq,and_true] at el ek;subst el ek;simp only at hkv hlv;have h4a:(s.extract 0 4).size=4:=by simp;omega
   have h4b:(s.extract 4 8).size=4:=by simp;omega
   have q1:w1.heap.size<wr.heap.size:=jF ck0;have q2:w2.heap.size<wr.heap.size:=jF cl0;have hna:=Jx _ h4a;have hnb:=Jx _ h4b;have HN:Hid (wv (BQ (s.extract 0 4).data.toList) (BQ (s.extract 4 8).data.toList)=CY k):=hsn;have HKV:=jp hkv;have HLV:=jp hlv;clear hsn hkv hlv;by_cases hpar:k % 2=0
   ·have hpar1:((k:Int) % 2==0)=true:=by rw [beq_iff_eq];omega
    have HP:Hid (Ci K L k=Be (CY k) K):=by show Ci K L k=_;unfold Ci;rw [if_pos hpar]
    go_wp2_with fail;refine (Fu _ _ (by omega)).mono ?_;rintro e w3 ⟨rfl,rfl⟩;generalize BQ (s.extract 0 4).data.toList=na at *;go_wp2_with fail;refine (Fu _ _ (by omega)).mono ?_;rintro e w4 ⟨rfl,rfl⟩;generalize BQ (s.extract 4 8).data.toList=nb at *;go_wp2_with fail;refine (Fb _ _ _ _ _ hna hnb hkx hky).mono ?_;rintro e w5 ⟨m0,m1,rfl,hb5,hm0,hm1,em⟩
    have EM:Hid (wv m0 m1=Ci K L k):=by
     show wv m0 m1=_;have em':wv m0 m1=Be (wv na nb) (wv kx ky):=em;rw [em',HN.out,HKV.out,HP.out]
    clear em;obtain ⟨hq5,hf5⟩:=hb5.cells;have hB5:Aa wr w5:=by (repeat (first|exact jD _|assumption|refine jA ?_|refine jB ?_|refine jC ?_|refine Aa.step_set ?_ (by simp <;>omega) _|refine jE ?_ (by assumption)))
    have hz5:=hb5.size;simp only [World.size_alloc] at hz5;have hB6:Aa wr ((w5.setCell ⟨wr.heap.size,0,none⟩ (.int .i64 m0)).setCell ⟨wr.heap.size,1,none⟩ (.int .i64 m1)):=by (repeat (first|exact jD _|assumption|refine jA ?_|refine jB ?_|refine jC ?_|refine Aa.step_set ?_ (by simp <;>omega) _|refine jE ?_ (by assumption)))
    go_wp2_with (first|(at_builtin;refine wpList_append_own _ rfl _ _ 232 rfl S.heap.size 181 i0 (.agg #[.int .i64 0,.int .i64 0]) 2 16 Tryz.underlying232 hi hz0 hz1 hz2 rfl (by decide) _ k (Fg xs) rfl ?o1 ⟨w5.heap.size,0,none⟩ 1 1 [.int .i64 m0,.int .i64 m1] rfl rfl ?c1 ?c2 ?c3 ?c4 ?c5 ?_))
    case o1=>exact (I6 hown hB6).alloc _
    case c1=>exact I0 _ _ _ _ _ (by simp)
    case c2=>intro u hu;simp at hu;rcases hu with rfl|rfl <;>rfl
    case c3=>unfold maxLen;omega
    case c4=>omega
    case c5=>have:=hSb.size;simp;omega
    intro v' w6 hown' hgrow _;have G:=Jt.step (p:=(m0,m1)) hbx0' hnm0 hSb hown HVAL.out (hB6.step_alloc _) hgrow hown' EM.out;clear hown' hgrow;go_wp2_with fail;go_roundg (4 - (k+1))
    case measure=>omega
    case rel=>exact ⟨k+1,xs++[(m0,m1)],rfl,by omega,by go_num,by simp [hxl],fun p hp=>by rcases jT.1 hp with h|h;exact hxs p h;(simp at h;subst h;exact ⟨hm0,hm1⟩),G⟩
   ·have hpar':((k:Int) % 2==0)=false:=by rw [jI];omega
    have HP:Hid (Ci K L k=Be (CY k) L):=by show Ci K L k=_;unfold Ci;rw [if_neg hpar]
    clear hpar;go_wp2_with fail;refine (Fu _ _ (by omega)).mono ?_;rintro e w3 ⟨rfl,rfl⟩;generalize BQ (s.extract 0 4).data.toList=na at *;go_wp2_with fail;refine (Fu _ _ (by omega)).mono ?_;rintro e w4 ⟨rfl,rfl⟩;generalize BQ (s.extract 4 8).data.toList=nb at *;go_wp2_with fail;refine (Fb _ _ _ _ _ hna hnb hlx hly).mono ?_;rintro e w5 ⟨m0,m1,rfl,hb5,hm0,hm1,em⟩
    have EM:Hid (wv m0 m1=Ci K L k):=by
     show wv m0 m1=_;have em':wv m0 m1=Be (wv na nb) (wv lx ly):=em;rw [em',HN.out,HLV.out,HP.out]
    clear em;obtain ⟨hq5,hf5⟩:=hb5.cells;have hB5:Aa wr w5:=by (repeat (first|exact jD _|assumption|refine jA ?_|refine jB ?_|refine jC ?_|refine Aa.step_set ?_ (by simp <;>omega) _|refine jE ?_ (by assumption)))
    have hz5:=hb5.size;simp only [World.size_alloc] at hz5;have hB6:Aa wr ((w5.setCell ⟨wr.heap.size,0,none⟩ (.int .i64 m0)).setCell ⟨wr.heap.size,1,none⟩ (.int .i64 m1)):=by (repeat (first|exact jD _|assumption|refine jA ?_|refine jB ?_|refine jC ?_|refine Aa.step_set ?_ (by simp <;>omega) _|refine jE ?_ (by assumption)))
    go_wp2_with (first|(at_builtin;refine wpList_append_own _ rfl _ _ 232 rfl S.heap.size 181 i0 (.agg #[.int .i64 0,.int .i64 0]) 2 16 Tryz.underlying232 hi hz0 hz1 hz2 rfl (by decide) _ k (Fg xs) rfl ?o1 ⟨w5.heap.size,0,none⟩ 1 1 [.int .i64 m0,.int .i64 m1] rfl rfl ?c1 ?c2 ?c3 ?c4 ?c5 ?_))
    case o1=>exact (I6 hown hB6).alloc _
    case c1=>exact I0 _ _ _ _ _ (by simp)
    case c2=>intro u hu;simp at hu;rcases hu with rfl|rfl <;>rfl
    case c3=>unfold maxLen;omega
    case c4=>omega
    case c5=>have:=hSb.size;simp;omega
    intro v' w6 hown' hgrow _;have G:=Jt.step (p:=(m0,m1)) hbx0' hnm0 hSb hown HVAL.out (hB6.step_alloc _) hgrow hown' EM.out;clear hown' hgrow;go_wp2_with fail;go_roundg (4 - (k+1))
    case measure=>omega
    case rel=>exact ⟨k+1,xs++[(m0,m1)],rfl,by omega,by go_num,by simp [hxl],fun p hp=>by rcases jT.1 hp with h|h;exact hxs p h;(simp at h;subst h;exact ⟨hm0,hm1⟩),G⟩
  ·have hk:k=4:=by omega
   subst hk;obtain ⟨g,cap,rfl,hg4,h4⟩:=Qq hown hxs HVAL.out HKU.out HLU.out;have hbW:Aa w wr:=hbw1.trans hbx.1;have hbxr:BM w.heap.size wr (.pointer (some ⟨w.heap.size,0,none⟩)):=hbx0.later hbx.1;clear hown hbx hbx0' hnm hnm0 hSb hxs hxl HVAL hbx0;go_wp2_with fail;go_loopg [1] (7 - t.size % 8) (fun r x wx=>wx=wr∧∃(s:ByteArray),x= .string s∧r=7 - s.size % 8∧s.size+r=t.size+(7 - t.size % 8)∧Gm t s)
   case atStart=>exact ⟨rfl,t,rfl,rfl,rfl,Gm.refl t⟩
   case round=>
    obtain ⟨rfl,s,rfl,hr,hsz,hfil⟩:=hrel;have HF:=jp hfil;clear hfil;have HZ:Hid (s.size+gk=t.size+(7 - t.size % 8)):=hsz;have hsb:s.size≤1099511627790:=by omega
    clear hsz;by_cases h7:s.size % 8=7
    ·have h7':((s.size:Int) % 8 !=7)=false:=by rw [jc];omega
     have hcv:=Kn;have h1z:=EU;have HPD:Hid (Gz t (s++BH ((t.size:Int) % 256))):=HF.out.done (by have:=HZ.out;omega);go_wp2_with fail;have hsz1:(s++BH ((t.size:Int) % 256)).size=s.size+1:=by simp [EU]
     generalize s++BH ((t.size:Int) % 256)=y at *;have hy8:y.size % 8=0:=by omega
     have hyb:y.size≤1099511627791:=by omega
     have hyz:y.size=8 * (t.size / 8)+8:=HPD.out.2.2.2;clear hsz1 h7' h7 HZ hr hcv h1z hsb HF;have hb0:Aa wr (wr.alloc (.cells #[.int .u8 ((t.size:Int) % 256)] 5)):=Aa.step_alloc (jD _) _;have hI0:Du (wr.alloc (.cells #[.int .u8 ((t.size:Int) % 256)] 5)) g (CH y (Dt K L) 0):=h4.later hb0;have hI1:=hbW.trans hb0;have hI2:=hbxr.later hb0;clear h4 hbW hbxr;go_loopg [8,14] (y.size / 8) (fun r v i wx=>∃(b' cap' q:Nat),v= .slice (some ⟨b',0,none⟩) 4 cap'∧i= .int .i64 (8 * q)∧q+r=y.size / 8∧Du wx b' (CH y (Dt K L) q)∧Aa w wx∧BM w.heap.size wx (.pointer (some ⟨w.heap.size,0,none⟩)))
     case atStart=>exact ⟨g,cap,0,rfl,rfl,by omega,hI0,hI1,hI2⟩
     case round=>
      obtain ⟨b',cap',q,rfl,rfl,hq,h4,hbW,hbxr⟩:=hrel;clear hI0 hI1 hI2;have HBW:=jp hbW;have HBX:=jp hbxr;by_cases hlt:8 * q<y.size
      ·have hx8:(y.extract (8 * q) (8 * q+8)).size=8:=by simp;omega
       have hwd:BE (y.extract (8 * q) (8 * q+8)) 0=BE y (8 * q):=MN y _ _ (by omega) (by omega);have rd:=fun wx=>LD _ wx hx8
       rw [hwd] at rd;have HT:Hid (CH y (Dt K L) (q+1)=(CH y (Dt K L) q).take (BE y (8 * q))):=rfl;generalize CH y (Dt K L) q=T0 at *;generalize BE y (8 * q)=M at *;obtain ⟨x0,x1,x2,x3,x4,x5,x6,x7,⟨g0,g1,g2,g3,g4,g5,g6,g7⟩,⟨c0,c1,c2,c3,c4,c5,c6,c7⟩,e0,e1,e2,e3⟩:=h4;obtain ⟨ta,tb,tc,td⟩:=T0;simp only at e0 e1 e2 e3;obtain ⟨D,ED⟩:∃X,X=Be td M:=⟨_,rfl⟩;obtain ⟨R2,ER⟩:∃X,X=S4.rounds ⟨ta,tb,tc,D⟩ 2:=⟨_,rfl⟩;have HD:=jp ED;have HR:=jp ER;clear ED ER hwd;have hS:AP wr [] wr:=AP.nil wr;go_upto_region 22 with fail
       go_cut [15] (fun u15 wc=>AP wr [(u15,M)] wc)
       case first=>
        go_wp2_with fail;refine (rd _).mono ?_;rintro e w2' ⟨z0,z1,rfl,hb2,k0,k1,ez⟩;have EZ:Hid (wv z0 z1=M):=ez;clear ez;go_wp2_with fail;go_meet
        case rel=>
         have hB:Aa wr w2':=by (repeat (first|exact jD _|assumption|refine jA ?_|refine jB ?_|refine jC ?_|refine Aa.step_set ?_ (by simp <;>omega) _|refine jE ?_ (by assumption)))
         exact hS.more (hB.step_alloc _) (AX.new (hS.1.trans hB).size k0 k1 EZ.out _) hB.size
       case rest=>
        replace hS:=hcut;clear hcut rd;go_upto_region 23 with fail
        go_cut [16] (fun u16 wc=>AP wr [(u15,M),(u16,D)] wc)
        case first=>
         have d6:=hS.1.cell c6;have d7:=hS.1.cell c7;obtain ⟨p15,X15,Y15,E15,hp15,c150,c151,f150,f151,hX15,hY15,hV15⟩:=hS.2.1 (u15,M) (by simp);simp only at E15;subst E15;go_region_held3 (fun w'=>Aa wc w'∧w'.cell? ⟨b',6,none⟩=some (.int .i64 x6)∧w'.cell? ⟨b',7,none⟩=some (.int .i64 x7)∧w'.cell? ⟨p15,0,none⟩=some (.int .i64 X15)∧w'.cell? ⟨p15,1,none⟩=some (.int .i64 Y15)) ((refine If ?_ d6 d7 c150 c151;(repeat (first|exact jD _|assumption|refine jA ?_|refine jB ?_|refine jC ?_|refine Aa.step_set ?_ (by simp <;>omega) _|refine jE ?_ (by assumption))))) ((go_at_call 207;refine (Fb _ _ _ _ _ g6 g7 hX15 hY15).mono ?_;rintro e w2' ⟨z0,z1,rfl,hb2,k0,k1,ez⟩;obtain ⟨hq2,hf2⟩:=hb2.cells))
         all_goals
          have EZ:Hid (wv z0 z1=D):=by
           show wv z0 z1=D;have ez':wv z0 z1=Be (wv x6 x7) (wv X15 Y15):=ez;rw [ez',e3,hV15,HD.out]
          clear ez;go_wp2_with fail;go_meet
          case rel=>
           have hB:Aa wc w2':=by (repeat (first|exact jD _|assumption|refine jA ?_|refine jB ?_|refine jC ?_|refine Aa.step_set ?_ (by simp <;>omega) _|refine jE ?_ (by assumption)))
           have hw:=(hS.1.trans hB).size;have hw1:=hS.1.size
           first
            |exact hS.more (hB.step_alloc _) (AX.new hw k0 k1 EZ.out _) hB.size
            |exact hS.more ((hB.step_set (p:=⟨wc.heap.size,0,none⟩) (jH _) _).step_set (p:=⟨wc.heap.size,1,none⟩) (jH _) _) (AX.stored hw1 ((hq2 _ _ (by simp)).trans (by simp;rfl)) ((hq2 _ _ (by simp)).trans (by simp;rfl)) ((hf2 _ _ (by simp)).trans (by simp)) ((hf2 _ _ (by simp)).trans (by simp)) k0 k1 EZ.out) (jH _)
        case rest=>
         replace hS:=hcut;clear hcut;go_upto_region 24 with fail
         go_cut [8] (fun v8 wc=>∃b2 capb2:Nat,v8= .slice (some ⟨b2,0,none⟩) 4 capb2∧AP wr [(u15,M),(u16,D)] wc∧Du wc b2 R2)
         case first=>
          have d0:=hS.1.cell c0;have d1:=hS.1.cell c1;have d2:=hS.1.cell c2;have d3:=hS.1.cell c3;have d4:=hS.1.cell c4;have d5:=hS.1.cell c5;obtain ⟨p16,X16,Y16,E16,hp16,c160,c161,f160,f161,hX16,hY16,hV16⟩:=hS.2.1 (u16,D) (by simp);simp only at E16 hV16;subst E16;have hrd:=fun (bx cx:Nat) wx (hf:Du wx bx ⟨ta,tb,tc,D⟩)=>Om bx cx 2 ⟨ta,tb,tc,D⟩ wx (by omega) hf
          rw [←HR.out] at hrd;go_region_held3 (fun w'=>Aa wc w'∧w'.cell? ⟨b',0,none⟩=some (.int .i64 x0)∧w'.cell? ⟨b',1,none⟩=some (.int .i64 x1)∧w'.cell? ⟨b',2,none⟩=some (.int .i64 x2)∧w'.cell? ⟨b',3,none⟩=some (.int .i64 x3)∧w'.cell? ⟨b',4,none⟩=some (.int .i64 x4)∧w'.cell? ⟨b',5,none⟩=some (.int .i64 x5)∧w'.cell? ⟨p16,0,none⟩=some (.int .i64 X16)∧w'.cell? ⟨p16,1,none⟩=some (.int .i64 Y16)) ((refine LT ?_ d0 d1 d2 d3 d4 d5 c160 c161;(repeat (first|exact jD _|assumption|refine jA ?_|refine jB ?_|refine jC ?_|refine Aa.step_set ?_ (by simp <;>omega) _|refine jE ?_ (by assumption))))) ((go_at_call 208;refine (hrd _ _ _ ⟨_,_,_,_,_,_,_,_,⟨g0,g1,g2,g3,g4,g5,hX16,hY16⟩,⟨by simp,by simp,by simp,by simp,by simp,by simp,by simp,by simp⟩,e0,e1,e2,hV16⟩).mono ?_;rintro e w2' ⟨b2,capb2,rfl,hb2,hF2⟩))
          all_goals
           go_wp2_with fail;go_meet
           case rel=>
            have hB:Aa wc w2':=by (repeat (first|exact jD _|assumption|refine jA ?_|refine jB ?_|refine jC ?_|refine Aa.step_set ?_ (by simp <;>omega) _|refine jE ?_ (by assumption)))
            exact ⟨b2,capb2,rfl,hS.later hB,hF2⟩
         case rest=>
          obtain ⟨b2,capb2,rfl,hS',hF⟩:=hcut;replace hS:=hS';clear hS';obtain ⟨ra,rb,rc,rd⟩:=R2;obtain ⟨AA,EA⟩:∃X,X=Be ra M:=⟨_,rfl⟩;have HA:=jp EA;clear EA;go_upto_region 25 with fail
          go_cut [17] (fun u17 wc=>AP wr [(u15,M),(u16,D),(u17,AA)] wc∧Du wc b2 ⟨ra,rb,rc,rd⟩)
          case first=>
           have hF':=hF;obtain ⟨y0,y1,y2,y3,y4,y5,y6,y7,⟨f0,f1,f2,f3,f4,f5,f6,f7⟩,⟨d0,d1,d2,d3,d4,d5,d6,d7⟩,n0,n1,n2,n3⟩:=hF;simp only at n0 n1 n2 n3;obtain ⟨p15,X15,Y15,E15,hp15,c150,c151,f150,f151,hX15,hY15,hV15⟩:=hS.2.1 (u15,M) (by simp);simp only at E15 hV15;subst E15;go_region_held3 (fun w'=>Aa wc w'∧w'.cell? ⟨b2,0,none⟩=some (.int .i64 y0)∧w'.cell? ⟨b2,1,none⟩=some (.int .i64 y1)∧w'.cell? ⟨p15,0,none⟩=some (.int .i64 X15)∧w'.cell? ⟨p15,1,none⟩=some (.int .i64 Y15)) ((refine If ?_ d0 d1 c150 c151;(repeat (first|exact jD _|assumption|refine jA ?_|refine jB ?_|refine jC ?_|refine Aa.step_set ?_ (by simp <;>omega) _|refine jE ?_ (by assumption))))) ((go_at_call 207;refine (Fb _ _ _ _ _ f0 f1 hX15 hY15).mono ?_;rintro e w2' ⟨z0,z1,rfl,hb2,k0,k1,ez⟩;obtain ⟨hq2,hf2⟩:=hb2.cells))
           all_goals
            have EZ:Hid (wv z0 z1=AA):=by
             show wv z0 z1=AA;have ez':wv z0 z1=Be (wv y0 y1) (wv X15 Y15):=ez;rw [ez',n0,hV15,HA.out]
            clear ez;go_wp2_with fail;go_meet
            case rel=>
             have hB:Aa wc w2':=by (repeat (first|exact jD _|assumption|refine jA ?_|refine jB ?_|refine jC ?_|refine Aa.step_set ?_ (by simp <;>omega) _|refine jE ?_ (by assumption)))
             have hw:=(hS.1.trans hB).size;have hw1:=hS.1.size
             first
              |exact ⟨hS.more (hB.step_alloc _) (AX.new hw k0 k1 EZ.out _) hB.size,hF'.later (hB.step_alloc _)⟩
              |exact ⟨hS.more ((hB.step_set (p:=⟨wc.heap.size,0,none⟩) (jH _) _).step_set (p:=⟨wc.heap.size,1,none⟩) (jH _) _) (AX.stored hw1 ((hq2 _ _ (by simp)).trans (by simp;rfl)) ((hq2 _ _ (by simp)).trans (by simp;rfl)) ((hf2 _ _ (by simp)).trans (by simp)) ((hf2 _ _ (by simp)).trans (by simp)) k0 k1 EZ.out) (jH _),hF'.later ((hB.step_set (p:=⟨wc.heap.size,0,none⟩) (jH _) _).step_set (p:=⟨wc.heap.size,1,none⟩) (jH _) _)⟩
          case rest=>
           obtain ⟨hS',hF⟩:=hcut;replace hS:=hS';clear hS';go_upto_region 26 with fail
           obtain ⟨y0,y1,y2,y3,y4,y5,y6,y7,⟨f0,f1,f2,f3,f4,f5,f6,f7⟩,⟨d0,d1,d2,d3,d4,d5,d6,d7⟩,n0,n1,n2,n3⟩:=hF;simp only at n0 n1 n2 n3;obtain ⟨p17,X17,Y17,E17,hp17,c170,c171,f170,f171,hX17,hY17,hV17⟩:=hS.2.1 (u17,AA) (by simp);simp only at E17 hV17;subst E17
           have HFIN:Hid (CH y (Dt K L) (q+1)=⟨AA,rb,rc,rd⟩):=by
            show CH y (Dt K L) (q+1)=_;rw [HT.out,HA.out];show (⟨bits .xor .u64 (S4.round (S4.round ⟨ta,tb,tc,bits .xor .u64 td M⟩)).a M,(S4.round (S4.round ⟨ta,tb,tc,bits .xor .u64 td M⟩)).b,(S4.round (S4.round ⟨ta,tb,tc,bits .xor .u64 td M⟩)).c,(S4.round (S4.round ⟨ta,tb,tc,bits .xor .u64 td M⟩)).d⟩:S4)=_
            have hr2:S4.round (S4.round ⟨ta,tb,tc,bits .xor .u64 td M⟩)=⟨ra,rb,rc,rd⟩:=by
             rw [HR.out,HD.out];rfl
            rw [hr2];rfl
           go_region_held3 (fun w'=>Aa wc w'∧w'.cell? ⟨p17,0,none⟩=some (.int .i64 X17)∧w'.cell? ⟨p17,1,none⟩=some (.int .i64 Y17)∧w'.cell? ⟨b2,2,none⟩=some (.int .i64 y2)∧w'.cell? ⟨b2,3,none⟩=some (.int .i64 y3)∧w'.cell? ⟨b2,4,none⟩=some (.int .i64 y4)∧w'.cell? ⟨b2,5,none⟩=some (.int .i64 y5)∧w'.cell? ⟨b2,6,none⟩=some (.int .i64 y6)∧w'.cell? ⟨b2,7,none⟩=some (.int .i64 y7)) ((refine LT ?_ c170 c171 d2 d3 d4 d5 d6 d7;(repeat (first|exact jD _|assumption|refine jA ?_|refine jB ?_|refine jC ?_|refine Aa.step_set ?_ (by simp <;>omega) _|refine jE ?_ (by assumption))))) (fail)
           all_goals
            go_wp2_with fail;go_roundg (gk - 1)
            case measure=>omega
            case rel=>
             have hB:Aa wr _:=hS.1;exact ⟨wc.heap.size,4,q+1,rfl,by go_num,by omega,by rw [HFIN.out];exact ⟨_,_,_,_,_,_,_,_,⟨hX17,hY17,f2,f3,f4,f5,f6,f7⟩,⟨by simp,by simp,by simp,by simp,by simp,by simp,by simp,by simp⟩,hV17,n1,n2,n3⟩,HBW.out.trans (hS.1.trans (by (repeat (first|exact jD _|assumption|refine jA ?_|refine jB ?_|refine jC ?_|refine Aa.step_set ?_ (by simp <;>omega) _|refine jE ?_ (by assumption))))),HBX.out.later (hS.1.trans (by (repeat (first|exact jD _|assumption|refine jA ?_|refine jB ?_|refine jC ?_|refine Aa.step_set ?_ (by simp <;>omega) _|refine jE ?_ (by assumption)))))⟩
      ·obtain rfl:q=t.size / 8+1:=by omega
       have HT:Hid (CH y (Dt K L) (t.size / 8+1)=(CH t (Dt K L) (t.size / 8)).take (bits .or .u64 (BE t (8 * (t.size / 8))) ((t.size:Int) * 72057594037927936 % 18446744073709551616))):=Wf HPD.out _;generalize CH y (Dt K L) (t.size / 8+1)=T0 at *;have HU:=jp h4.u64;obtain ⟨x0,x1,x2,x3,x4,x5,x6,x7,⟨g0,g1,g2,g3,g4,g5,g6,g7⟩,⟨c0,c1,c2,c3,c4,c5,c6,c7⟩,e0,e1,e2,e3⟩:=h4;obtain ⟨ta,tb,tc,td⟩:=T0;simp only at e0 e1 e2 e3;obtain ⟨CC,EC⟩:∃X,X=Be tc 255:=⟨_,rfl⟩;obtain ⟨R4,ER⟩:∃X,X=S4.rounds ⟨ta,tb,CC,td⟩ 4:=⟨_,rfl⟩;have HC:=jp EC;have HR:=jp ER;clear EC ER;have hS:AP wr [] wr:=AP.nil wr;go_upto_region 27 with fail
       go_cut [18] (fun u18 wc=>AP wr [(u18,CC)] wc)
       case first=>
        go_wp2_with fail;refine (Fb _ _ _ _ _ g4 g5 ⟨by decide,by decide⟩ ⟨by decide,by decide⟩).mono ?_;rintro e w2' ⟨z0,z1,rfl,hb2,k0,k1,ez⟩
        have EZ:Hid (wv z0 z1=CC):=by
         show wv z0 z1=CC;have ez':wv z0 z1=Be (wv x4 x5) (wv 0 255):=ez;rw [ez',e2,HC.out];rfl
        clear ez;go_wp2_with fail;go_meet
        case rel=>
         have hB:Aa wr w2':=by (repeat (first|exact jD _|assumption|refine jA ?_|refine jB ?_|refine jC ?_|refine Aa.step_set ?_ (by simp <;>omega) _|refine jE ?_ (by assumption)))
         exact hS.more (hB.step_alloc _) (AX.new (hS.1.trans hB).size k0 k1 EZ.out _) hB.size
       case rest=>
        replace hS:=hcut;clear hcut;go_upto_region 28 with fail
        go_cut [8] (fun v8 wc=>∃b2 capb2:Nat,v8= .slice (some ⟨b2,0,none⟩) 4 capb2∧AP wr [(u18,CC)] wc∧Du wc b2 R4)
        case first=>
         have d0:=hS.1.cell c0;have d1:=hS.1.cell c1;have d2:=hS.1.cell c2;have d3:=hS.1.cell c3;have d6:=hS.1.cell c6;have d7:=hS.1.cell c7;obtain ⟨p18,X18,Y18,E18,hp18,c180,c181,f180,f181,hX18,hY18,hV18⟩:=hS.2.1 (u18,CC) (by simp);simp only at E18 hV18;subst E18;have hrd:=fun (bx cx:Nat) wx (hf:Du wx bx ⟨ta,tb,CC,td⟩)=>Om bx cx 4 ⟨ta,tb,CC,td⟩ wx (by omega) hf
         rw [←HR.out] at hrd;go_region_held3 (fun w'=>Aa wc w'∧w'.cell? ⟨b',0,none⟩=some (.int .i64 x0)∧w'.cell? ⟨b',1,none⟩=some (.int .i64 x1)∧w'.cell? ⟨b',2,none⟩=some (.int .i64 x2)∧w'.cell? ⟨b',3,none⟩=some (.int .i64 x3)∧w'.cell? ⟨p18,0,none⟩=some (.int .i64 X18)∧w'.cell? ⟨p18,1,none⟩=some (.int .i64 Y18)∧w'.cell? ⟨b',6,none⟩=some (.int .i64 x6)∧w'.cell? ⟨b',7,none⟩=some (.int .i64 x7)) ((refine LT ?_ d0 d1 d2 d3 c180 c181 d6 d7;(repeat (first|exact jD _|assumption|refine jA ?_|refine jB ?_|refine jC ?_|refine Aa.step_set ?_ (by simp <;>omega) _|refine jE ?_ (by assumption))))) ((go_at_call 208;refine (hrd _ _ _ ⟨_,_,_,_,_,_,_,_,⟨g0,g1,g2,g3,hX18,hY18,g6,g7⟩,⟨by simp,by simp,by simp,by simp,by simp,by simp,by simp,by simp⟩,e0,e1,hV18,e3⟩).mono ?_;rintro e w2' ⟨b2,capb2,rfl,hb2,hF2⟩))
         all_goals
          go_wp2_with fail;go_meet
          case rel=>
           have hB:Aa wc w2':=by (repeat (first|exact jD _|assumption|refine jA ?_|refine jB ?_|refine jC ?_|refine Aa.step_set ?_ (by simp <;>omega) _|refine jE ?_ (by assumption)))
           exact ⟨b2,capb2,rfl,hS.later hB,hF2⟩
        case rest=>
         obtain ⟨b2,capb2,rfl,hS',hF⟩:=hcut;replace hS:=hS';clear hS';have HU4:=jp hF.u64;obtain ⟨ra,rb,rc,rd⟩:=R4;obtain ⟨XX,EX⟩:∃X,X=Be ra rb:=⟨_,rfl⟩;obtain ⟨YY,EY⟩:∃X,X=Be rc rd:=⟨_,rfl⟩;have HX:=jp EX;have HY:=jp EY;clear EX EY
         have HFIN:Hid (SUM=Be XX YY):=by
          show SUM=_;obtain ⟨v1,v2,v3,v4⟩:=HU4.out;rw [HSUM.out,HX.out,HY.out,YP v1 v2 v3 v4]
          have hr4:(⟨ra,rb,rc,rd⟩:S4)=S4.round (S4.round (S4.round (S4.round ⟨ta,tb,bits .xor .u64 tc 255,td⟩))):=by
           rw [HR.out,Rp,HC.out];rfl
          unfold Cs;rw [←HK.out,←HL.out];simp only;rw [←HT.out];simp only;rw [←hr4]
         go_upto_region 29 with fail
         go_cut [19] (fun u19 wc=>AP wr [(u18,CC),(u19,XX)] wc∧Du wc b2 ⟨ra,rb,rc,rd⟩)
         case first=>
          have hF':=hF;obtain ⟨y0,y1,y2,y3,y4,y5,y6,y7,⟨f0,f1,f2,f3,f4,f5,f6,f7⟩,⟨d0,d1,d2,d3,d4,d5,d6,d7⟩,n0,n1,n2,n3⟩:=hF;simp only at n0 n1 n2 n3;go_region_held3 (fun w'=>Aa wc w'∧w'.cell? ⟨b2,0,none⟩=some (.int .i64 y0)∧w'.cell? ⟨b2,1,none⟩=some (.int .i64 y1)∧w'.cell? ⟨b2,2,none⟩=some (.int .i64 y2)∧w'.cell? ⟨b2,3,none⟩=some (.int .i64 y3)) ((refine If ?_ d0 d1 d2 d3;(repeat (first|exact jD _|assumption|refine jA ?_|refine jB ?_|refine jC ?_|refine Aa.step_set ?_ (by simp <;>omega) _|refine jE ?_ (by assumption))))) ((go_at_call 207;refine (Fb _ _ _ _ _ f0 f1 f2 f3).mono ?_;rintro e w2' ⟨z0,z1,rfl,hb2,k0,k1,ez⟩;obtain ⟨hq2,hf2⟩:=hb2.cells))
          all_goals
           have EZ:Hid (wv z0 z1=XX):=by
            show wv z0 z1=XX;have ez':wv z0 z1=Be (wv y0 y1) (wv y2 y3):=ez;rw [ez',n0,n1,HX.out]
           clear ez;go_wp2_with fail;go_meet
           case rel=>
            have hB:Aa wc w2':=by (repeat (first|exact jD _|assumption|refine jA ?_|refine jB ?_|refine jC ?_|refine Aa.step_set ?_ (by simp <;>omega) _|refine jE ?_ (by assumption)))
            have hw:=(hS.1.trans hB).size;have hw1:=hS.1.size
            first
             |exact ⟨hS.more (hB.step_alloc _) (AX.new hw k0 k1 EZ.out _) hB.size,hF'.later (hB.step_alloc _)⟩
             |exact ⟨hS.more ((hB.step_set (p:=⟨wc.heap.size,0,none⟩) (jH _) _).step_set (p:=⟨wc.heap.size,1,none⟩) (jH _) _) (AX.stored hw1 ((hq2 _ _ (by simp)).trans (by simp;rfl)) ((hq2 _ _ (by simp)).trans (by simp;rfl)) ((hf2 _ _ (by simp)).trans (by simp)) ((hf2 _ _ (by simp)).trans (by simp)) k0 k1 EZ.out) (jH _),hF'.later ((hB.step_set (p:=⟨wc.heap.size,0,none⟩) (jH _) _).step_set (p:=⟨wc.heap.size,1,none⟩) (jH _) _)⟩
         case rest=>
          obtain ⟨hS',hF⟩:=hcut;replace hS:=hS';clear hS';go_upto_region 30 with fail
          go_cut [20] (fun u20 wc=>AP wr [(u18,CC),(u19,XX),(u20,YY)] wc)
          case first=>
           obtain ⟨y0,y1,y2,y3,y4,y5,y6,y7,⟨f0,f1,f2,f3,f4,f5,f6,f7⟩,⟨d0,d1,d2,d3,d4,d5,d6,d7⟩,n0,n1,n2,n3⟩:=hF;simp only at n0 n1 n2 n3;go_region_held3 (fun w'=>Aa wc w'∧w'.cell? ⟨b2,4,none⟩=some (.int .i64 y4)∧w'.cell? ⟨b2,5,none⟩=some (.int .i64 y5)∧w'.cell? ⟨b2,6,none⟩=some (.int .i64 y6)∧w'.cell? ⟨b2,7,none⟩=some (.int .i64 y7)) ((refine If ?_ d4 d5 d6 d7;(repeat (first|exact jD _|assumption|refine jA ?_|refine jB ?_|refine jC ?_|refine Aa.step_set ?_ (by simp <;>omega) _|refine jE ?_ (by assumption))))) ((go_at_call 207;refine (Fb _ _ _ _ _ f4 f5 f6 f7).mono ?_;rintro e w2' ⟨z0,z1,rfl,hb2,k0,k1,ez⟩;obtain ⟨hq2,hf2⟩:=hb2.cells))
           all_goals
            have EZ:Hid (wv z0 z1=YY):=by
             show wv z0 z1=YY;have ez':wv z0 z1=Be (wv y4 y5) (wv y6 y7):=ez;rw [ez',n2,n3,HY.out]
            clear ez;go_wp2_with fail;go_meet
            case rel=>
             have hB:Aa wc w2':=by (repeat (first|exact jD _|assumption|refine jA ?_|refine jB ?_|refine jC ?_|refine Aa.step_set ?_ (by simp <;>omega) _|refine jE ?_ (by assumption)))
             have hw:=(hS.1.trans hB).size;have hw1:=hS.1.size
             first
              |exact hS.more (hB.step_alloc _) (AX.new hw k0 k1 EZ.out _) hB.size
              |exact hS.more ((hB.step_set (p:=⟨wc.heap.size,0,none⟩) (jH _) _).step_set (p:=⟨wc.heap.size,1,none⟩) (jH _) _) (AX.stored hw1 ((hq2 _ _ (by simp)).trans (by simp;rfl)) ((hq2 _ _ (by simp)).trans (by simp;rfl)) ((hf2 _ _ (by simp)).trans (by simp)) ((hf2 _ _ (by simp)).trans (by simp)) k0 k1 EZ.out) (jH _)
          case rest=>
           replace hS:=hcut;clear hcut;obtain ⟨p19,X19,Y19,E19,hp19,c190,c191,f190,f191,hX19,hY19,hV19⟩:=hS.2.1 (u19,XX) (by simp);simp only at E19 hV19;subst E19;obtain ⟨p20,X20,Y20,E20,hp20,c200,c201,f200,f201,hX20,hY20,hV20⟩:=hS.2.1 (u20,YY) (by simp);simp only at E20 hV20;subst E20;obtain ⟨p4,X4,Y4,E4,hp4,c40,c41,f40,f41,hX4,hY4⟩:=HBX.out.later hS.1;simp only [Value.pointer.injEq,Option.some.injEq,Addr.mk.injEq,and_true] at E4;subst E4;go_wp2_with fail;refine (Fb _ _ _ _ _ hX19 hY19 hX20 hY20).mono ?_;rintro e w3 ⟨z0,z1,rfl,hb3,k0,k1,ez⟩
           have EZ:Hid (Gv SUM z0 z1):=by
            show wv z0 z1=SUM;have ez':wv z0 z1=Be (wv X19 Y19) (wv X20 Y20):=ez;rw [ez',hV19,hV20,HFIN.out]
           clear ez;have d40:=hb3.cell c40;have d41:=hb3.cell c41;have e40:=hb3.frozen c40 f40;have e41:=hb3.frozen c41 f41;have hB:=(HBW.out.trans hS.1).trans hb3;go_wp2;exact bodyPost_ret (v:= .agg #[.int .i64 z0,.int .i64 z1]) (by simp [results,Tryz.results166,go_sem,d40,d41]) rfl ⟨_,_,rfl,(hB.step_set (p:=⟨w.heap.size,0,none⟩) (jH _) _).step_set (p:=⟨w.heap.size,1,none⟩) (jH _) _,k0,k1,EZ.out⟩
    ·have h7':((s.size:Int) % 8 !=7)=true:=by rw [bne_iff_ne];omega
     go_wp2_with fail;go_roundg (7 - (s.size+1) % 8)
     case measure=>omega
     case rel=>exact ⟨rfl,_,rfl,by simp;rfl,by rw [jY];exact RA hr h7 HZ.out,HF.out.more⟩
end Go.Proofs.YtpapdkhjdelfcabGreat
