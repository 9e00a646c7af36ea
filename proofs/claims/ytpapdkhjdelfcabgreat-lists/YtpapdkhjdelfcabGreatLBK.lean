import Derived.Test.YtpapdkhjdelfcabGreatLBJ
namespace Go.Proofs.YtpapdkhjdelfcabGreat
open Go.RowKit
set_option maxRecDepth 100000
set_option maxHeartbeats 4000000
def Fj (x:EN):NI:=(wv x.2.1 x.2.2,x.1)
def F7 (B:List BK) (e:EI):NI:=(e.1,A7 B e.2)
def BU (c:Ac) (B:List BK) (E:List EN):Prop:=E.map Fj=(An c B).map (F7 B)
def Fx (w:World) (c:Ac) (B:List BK) (e:Ending) (w':World):Prop:=∃(v:Value) (E:List EN),e= .returned v∧Aa w w'∧Dz w.heap.size w' v E∧E.length≤140000∧(∀x∈E,DZ B x)∧(¬EV c→E=[]∨(E.length:Int)=c.slots)∧BU c B E
theorem BU.none {c:Ac} {B:List BK} (h:As B<1):BU c B []:=by
 unfold BU An;rw [if_pos h];rfl
def Ed (w:World) (v:Value) (k:Nat) (L:List EN) (u:Value) (X:Int) (wx:World):Prop:=∃S:World,Aa w S∧S.ownsRow w.heap.size 183 3 v k (Av L)∧Aa S wx∧AX S.heap.size wx u X
theorem Ed.bel {w:World} {v:Value} {k:Nat} {L:List EN} {u:Value} {X:Int} {wx:World} (h:Ed w v k L u X wx):Aa w wx:=by
 obtain ⟨S,h1,_,h3,_⟩:=h;exact h1.trans h3
theorem Ed.later {w:World} {v:Value} {k:Nat} {L:List EN} {u:Value} {X:Int} {wx wy:World} (h:Ed w v k L u X wx) (b:Aa wx wy):Ed w v k L u X wy:=by
 obtain ⟨S,h1,h2,h3,h4⟩:=h;exact ⟨S,h1,h2,h3.trans b,h4.later b⟩
theorem Ed.own {w:World} {v:Value} {k:Nat} {L:List EN} {u:Value} {X:Int} {wx:World} (h:Ed w v k L u X wx):wx.ownsRow w.heap.size 183 3 v k (Av L):=by
 obtain ⟨S,_,h2,h3,_⟩:=h;exact I6 h2 h3
theorem Ed.open {w:World} {v:Value} {k:Nat} {L:List EN} {u:Value} {X:Int} {wx:World} (h:Ed w v k L u X wx):∃(p:Nat) (x y:Int),u= .pointer (some ⟨p,0,none⟩)∧wx.cell? ⟨p,0,none⟩=some (.int .i64 x)∧wx.cell? ⟨p,1,none⟩=some (.int .i64 y)∧wx.frozen? ⟨p,0,none⟩=false∧wx.frozen? ⟨p,1,none⟩=false∧Af x∧Af y∧wv x y=X∧
  ∀(wy:World) (a b:Int),Aa wx wy→Af a→Af b→Ed w v k L u (wv a b) ((wy.setCell ⟨p,0,none⟩ (.int .i64 a)).setCell ⟨p,1,none⟩ (.int .i64 b)):=by
 obtain ⟨S,h1,h2,h3,h4⟩:=h;have h4':=h4;obtain ⟨p,x,y,hu,hp,c0,c1,f0,f1,hx,hy,hX⟩:=h4;refine ⟨p,x,y,hu,c0,c1,f0,f1,hx,hy,hX,fun wy a b hb ha hb'=>⟨S,h1,h2,?_,?_⟩⟩
 ·exact ((h3.trans hb).step_set (p:=⟨p,0,none⟩) hp _).step_set (p:=⟨p,1,none⟩) hp _
 ·rw [hu];exact AX.stored hp (hb.cell c0) (hb.cell c1) (hb.frozen c0 f0) (hb.frozen c1 f1) ha hb' rfl
def GF (B:List BK) (p:Int×Int) (s:ByteArray) (X:Int):Prop:=s=A7 B p.1∧X=p.2∧(p.1<0∨∃i,∃(_:i<B.length),p.1=(i:Nat))
theorem GF.emp {B:List BK} {p:Int×Int} {s:ByteArray} {X:Int} (h:GF B p s X) (hB:AL B):s.toList.isEmpty=true↔p.1<0:=by
 obtain ⟨rfl, -,h3⟩:=h;rw [isEmpty_iff];constructor
 ·intro h;rcases h3 with h3|⟨i,hi,he⟩
  ·exact h3
  ·rw [he,IY hi] at h;have:=(hB.2 _ (jJ hi)).1;omega
 ·intro h;unfold A7;rw [if_pos h];rfl
theorem Vw {key:ByteArray} {s i:Nat} {id:ByteArray} {m:Int×Int} {k:Nat} (h:(A6 key s i id m k).1<0∨(A6 key s i id m k).2<Al key 104 [s,k] id):A6 key s i id m (k+1)=((i:Int),Al key 104 [s,k] id):=by
 rw [A6];rw [if_pos h]
theorem UP {key:ByteArray} {s i:Nat} {id:ByteArray} {m:Int×Int} {k:Nat} (h:¬((A6 key s i id m k).1<0∨(A6 key s i id m k).2<Al key 104 [s,k] id)):A6 key s i id m (k+1)=A6 key s i id m k:=by
 rw [A6];rw [if_neg h]
theorem Rr {key:ByteArray} {s:Nat} {B:List BK} {i:Nat} (h:i<B.length):AV key s B (i+1)=A6 key s i B[i].1 (AV key s B i) B[i].2.toNat:=by
 rw [AV,jG h]
theorem Q7 {key:ByteArray} {s:Nat} {B:List BK} (hB:AL B) (h:(AV key s B B.length).1<0):As B<1:=by
 rcases Int.lt_or_le (As B) 1 with h1|h1
 ·exact h1
 ·obtain ⟨b,hb,hb1⟩:=NS h1 (fun b hb=>(hB.2 b hb).2.2.1);obtain ⟨i,hi,rfl⟩:=List.mem_iff_getElem.1 hb;have:=((NU key s B B.length (jH _)).2.2 i hi hi 0 (by omega)).1;omega
theorem Zi {key:ByteArray} {s:Nat} {B:List BK} (hB:AL B) (h:¬(AV key s B B.length).1<0):1≤As B:=by
 rcases (NU key s B B.length (jH _)).2.1 with h1|⟨p,hp, -, -,j,hj, -⟩
 ·rw [h1] at h;exact absurd (show ((-1:Int),(0:Int)).1<0 by decide) h
 ·exact Mu (jJ hp) (by omega) (fun b hb=>(hB.2 b hb).2.2.1)
theorem Vb {c:Ac} {B:List BK} {L:List EN} (ha:c.alg=3) (hw:1≤As B) (hL:L=(List.range c.slots.toNat).map fun s=>(A7 B (CS c.key B s),0,0)):BU c B L:=by
 unfold BU An;rw [if_neg (by omega),if_neg (by omega),if_neg (by omega),if_pos ha,hL,List.map_map,List.map_map];rfl
theorem Tk (c:Ac) (vB:Value) (B:List BK) (w:World) (hc:c.OK) (hP:Am w vB B) (hB:AL B) (ha3:c.alg=3):
  Calls Tryz.prog 204 #[.agg c.cells,vB] w (Fx w c B):=by
 have HPO:=jp hB;have HA3:=jp ha3;obtain ⟨i0,hi,hz0,hz1,hz2⟩:=info_parts Tryz.infoEN;have hc':Hid c.OK:=hc;obtain ⟨-, -,k3,k4, -, -, -, -, -,k9, -, -⟩:=hc
 obtain ⟨aoB,capB,rfl,hcB⟩:∃ao cap,vB= .slice ao B.length cap∧∀j (hj:j<B.length),∃g,ao=some ⟨g,0,none⟩∧w.cell? ⟨g,j * 2,none⟩=some (.string B[j].1)∧w.cell? ⟨g,j * 2+1,none⟩=some (.int .i64 B[j].2):=by
  rcases hP.form with ⟨rfl,rfl⟩|⟨g,cap,rfl,_,_,hc⟩
  ·exact ⟨_,_,rfl,fun j hj=>by simp at hj⟩
  ·exact ⟨_,_,rfl,fun j hj=>⟨g,rfl,hc j hj⟩⟩
 generalize hcc:c=cc at *;have HW1:Hid (∀k,(AV cc.key k B B.length).1<0→BU cc B []):=fun k h=>BU.none (Q7 HPO.out h)
 have HW2:Hid (∀L:List EN,(∃k,0≤(AV cc.key k B B.length).1)→L=(List.range cc.slots.toNat).map (fun s=>(A7 B (CS cc.key B s),0,0))→BU cc B L):=fun L ⟨k,hk⟩ hL=>Vb HA3.out (Zi HPO.out (show ¬(AV cc.key k B B.length).1<0 by omega)) hL
 clear HA3 ha3;obtain ⟨alg,slots,points,probes,key,formats⟩:=cc;simp only at HW1 HW2;simp only at k3 k4 k9;simp only [Ac.cells];go_enter Tryz.func204,Tryz.ntmps204;go_wp2;have hbox1:(w.alloc (.cells #[.int .i64 alg,.int .i64 slots,.int .i64 points,.int .i64 probes,.string key,.int .i64 formats] 34)).cell? ⟨w.heap.size,1,none⟩=some (.int .i64 slots):=by simp
 have hbox4:(w.alloc (.cells #[.int .i64 alg,.int .i64 slots,.int .i64 points,.int .i64 probes,.string key,.int .i64 formats] 34)).cell? ⟨w.heap.size,4,none⟩=some (.string key):=by simp
 have hbel0:Aa w (w.alloc (.cells #[.int .i64 alg,.int .i64 slots,.int .i64 points,.int .i64 probes,.string key,.int .i64 formats] 34)):=by solve_by_elim [jA,jB,jC,jD,jE]
 have hbx0:w.heap.size<(w.alloc (.cells #[.int .i64 alg,.int .i64 slots,.int .i64 points,.int .i64 probes,.string key,.int .i64 formats] 34)).heap.size:=by simp
 generalize w.alloc (.cells #[.int .i64 alg,.int .i64 slots,.int .i64 points,.int .i64 probes,.string key,.int .i64 formats] 34)=W at *;generalize hpx:w.heap.size=px at *;have HPX:Hid (w.heap.size=px):=hpx;clear hpx;go_loopg [5,6] slots.toNat (fun r v i wr=>∃(k:Nat) (L:List EN),r=slots.toNat - k∧(k:Int)≤slots∧i= .int .i64 k∧L.length=k∧wr.ownsRow W.heap.size 183 3 v k (Av L)∧Aa W wr∧(∀x∈L,DZ B x)∧L=(List.range k).map (fun s=>(A7 B (CS key B s),0,0))∧(0<k→∃j,0≤(AV key j B B.length).1))
 case atStart=>exact ⟨0,[],by omega,by omega,rfl,rfl,World.ownsRow_nil _ _ _ _,jD _,fun x hx=>(by simp at hx),rfl,fun h=>by omega⟩
 case round=>
  obtain ⟨k,L,hr,hks,rfl,hL,hown,hb,hall,hLe,hLs⟩:=hrel;have HLE:=jp hLe;have HLS:=jp hLs;clear hLe hLs;have d1:=hb.cell hbox1;by_cases hlt:(k:Int)<slots
  ·have hltb:decide ((k:Int)<slots)=true:=jL hlt;go_wp2_with fail;have hSc0:Ed W u5 k L (.pointer (some ⟨wr.heap.size,0,none⟩)) 0 (wr.alloc (.cells #[.int .i64 0,.int .i64 0] 181)):=⟨wr,hb,hown,by solve_by_elim [jA,jB,jC,jD,jE],AX.new (jH _) Cd Cd rfl _⟩;clear hown hb d1;generalize wr.heap.size=p8 at *;generalize wr.alloc (.cells #[.int .i64 0,.int .i64 0] 181)=w8 at *;go_loopg [7,9] B.length (fun r b i wx=>∃(s:ByteArray) (j:Nat),r=B.length - j∧j≤B.length∧b= .string s∧i= .int .i64 j∧I8 B s∧∃X,Ed W u5 k L (.pointer (some ⟨p8,0,none⟩)) X wx∧GF B (AV key k B j) s X)
   case atStart=>exact ⟨_,0,by omega,by omega,rfl,rfl,Or.inl rfl,0,hSc0,rfl,rfl,Or.inl (by show (-1:Int)<0;decide)⟩
   case round=>
    obtain ⟨s,j,hrj,hj,rfl,rfl,hbest,X,hSc,hwin⟩:=hrel;have HWIN:=jp hwin;clear hwin;by_cases hltj:j<B.length
    ·have hltjb:decide ((j:Int)<(B.length:Int))=true:=jL (by omega);obtain ⟨gB,rfl,b0,b1⟩:=hcB j hltj;have hmem:Hid (∃b∈B,b.1=B[j].1):=⟨B[j],jJ hltj,rfl⟩;obtain ⟨a1,a2,a3,a4⟩:=hB.2 _ (jJ hltj);have b0W:=hbel0.cell b0;have b1W:=hbel0.cell b1;have hB8:=hB.1;clear hcB hP b0 b1;have HNX:Hid (AV key k B (j+1)=A6 key k j B[j].1 (AV key k B j) B[j].2.toNat):=Rr hltj;have HNM:Hid (A7 B (j:Int)=B[j].1):=IY hltj;have HJL:=jp hltj;generalize B[j]=bj at *;obtain ⟨idj,wt⟩:=bj;simp only at b0W b1W a1 a2 a3 a4 hmem HNX HNM;go_wp2_with fail;go_loopg [7,10] 6 (fun r b i wx=>∃(s:ByteArray) (q:Nat),r=6 - q∧(q:Int)≤wt∧b= .string s∧i= .int .i64 q∧I8 B s∧∃X,Ed W u5 k L (.pointer (some ⟨p8,0,none⟩)) X wx∧GF B (A6 key k j idj (AV key k B j) q) s X)
     case atStart=>exact ⟨s,0,by omega,by omega,rfl,rfl,hbest,X,hSc,HWIN.out⟩
     case round=>
      obtain ⟨s',q,hrq,hq,rfl,rfl,hbest',X',hSc',hwin'⟩:=hrel;have HWIN':=jp hwin';clear hwin';have b0x:=hSc'.bel.cell b0W;have b1x:=hSc'.bel.cell b1W;have x4:=hSc'.bel.cell hbox4;by_cases hltq:(q:Int)<wt
      ·go_wp2_with fail;refine (Ka _ 2 _ (by omega) (by omega) (by decide)).mono ?_;rintro e w1 ⟨a,rfl,hb1,ha⟩;have HA:Hid (a=DF k 2):=ha;have ha2:a.size=2:=by rw [HA.out,Hm];rfl
       clear ha;go_wp2_with fail;refine (Ka _ 2 _ (by omega) (by omega) (by decide)).mono ?_;rintro e w2 ⟨d,rfl,hb2,hd⟩;have HD:Hid (d=DF q 2):=hd;have hd2:d.size=2:=by rw [HD.out,Hm];rfl
       clear hd;obtain ⟨HV,hHV⟩:∃X,X=Al key 104 [k,q] idj:=⟨_,rfl⟩;have HHV:=jp hHV
       have HTX:Hid (Cs key (((⟨#[104]⟩++a)++d)++idj)=HV):=by
        show Cs key _=HV;rw [HA.out,HD.out,hHV];exact So key 104 k q idj
       clear hHV;have hSc2:=(hSc'.later hb1).later hb2;have hb12:=hb1.trans hb2;have b0y:=hb12.cell b0x;have x4y:=hb12.cell x4;have hgl:gB<w2.heap.size:=jF b0y;have hpl:px<w2.heap.size:=jF x4y;go_upto_region 15 with fail
       go_cut [13] (fun u13 wc=>AX w2.heap.size wc u13 HV∧Aa w2 wc)
       case first=>
        go_region_with (go_at_call 166;refine (F2 _ _ _ k9 (by simp only [jY,show (({data:=#[104]}:ByteArray)).size=1 from rfl];omega)).mono ?_;rintro e w3 ⟨z0,z1,rfl,hb3,g0,g1,ez⟩;obtain ⟨hq2,hf2⟩:=hb3.cells)
        all_goals
         have EZ:Hid (wv z0 z1=HV):=by
          have ez':wv z0 z1=Cs key (((⟨#[104]⟩++a)++d)++idj):=ez;show wv z0 z1=HV;rw [ez',HTX.out]
         clear ez;go_wp2_with fail;go_meet
         case rel=>
          have hB3:Aa w2 w3:=by (repeat (first|exact jD _|assumption|refine jA ?_|refine jB ?_|refine jC ?_|refine Aa.step_set ?_ (by simp <;>omega) _|refine jE ?_ (by assumption)))
          first
           |exact ⟨AX.new hB3.size g0 g1 EZ.out _,hB3.step_alloc _⟩
           |exact ⟨AX.stored (jH _) ((hq2 _ _ (by simp)).trans (by simp;rfl)) ((hq2 _ _ (by simp)).trans (by simp;rfl)) ((hf2 _ _ (by simp)).trans (by simp)) ((hf2 _ _ (by simp)).trans (by simp)) g0 g1 EZ.out,(hB3.step_set (p:=⟨w2.heap.size,0,none⟩) (jH _) _).step_set (p:=⟨w2.heap.size,1,none⟩) (jH _) _⟩
       case rest=>
        obtain ⟨hb13,hbc⟩:=hcut;have hSc3:=hSc2.later hbc;have b0z:=hbc.cell b0y;obtain ⟨p13,X13,Y13,rfl,hp13,c130,c131,f130,f131,hX13,hY13,hV13⟩:=hb13;have HV13:=jp hV13;clear hV13;obtain ⟨p8',X8,Y8,E8,c80,c81,f80,f81,hX8,hY8,hV8,hset⟩:=hSc3.open;have HV8:=jp hV8;clear hV8;simp only [Value.pointer.injEq,Option.some.injEq,Addr.mk.injEq,and_true] at E8;subst E8;have HS:Hid (∀(wy:World) (a b:Int),Aa wc wy→Af a→Af b→Ed W u5 k L (.pointer (some ⟨p8,0,none⟩)) (wv a b) ((wy.setCell ⟨p8,0,none⟩ (.int .i64 a)).setCell ⟨p8,1,none⟩ (.int .i64 b))):=hset;clear hset
        have HTAKE:Hid ((A6 key k j idj (AV key k B j) q).1<0∨X'<HV→GF B (A6 key k j idj (AV key k B j) (q+1)) idj (wv X13 Y13)):=fun h=>by
         have hw:=HWIN'.out;rw [HHV.out,hw.2.1] at h;rw [Vw h];refine ⟨HNM.out.symm,by rw [HV13.out,HHV.out],Or.inr ⟨j,HJL.out,rfl⟩⟩
        have HSTAY:Hid (¬((A6 key k j idj (AV key k B j) q).1<0∨X'<HV)→GF B (A6 key k j idj (AV key k B j) (q+1)) s' X'):=fun h=>by
         have hw:=HWIN'.out;rw [HHV.out,hw.2.1] at h;rw [UP h];exact hw
        have HEMP:=jp (HWIN'.out.emp HPO.out);cases hemp:s'.toList.isEmpty
        ·have hneg:Hid (0≤(A6 key k j idj (AV key k B j) q).1):=by
          rcases Int.lt_or_le (A6 key k j idj (AV key k B j) q).1 0 with h|h
          ·rw [HEMP.out.2 h] at hemp;cases hemp
          ·exact h
         go_wp2_with fail
         refine (J7 _ _ _ _ _ hX8 hY8 hX13 hY13).mono ?_
         rintro e w4 ⟨AO,rfl,hb4,hless⟩
         have HLESS:Hid (AO=true↔X'<HV):=by
          have:=hless;unfold Co at this;rw [HV8.out,HV13.out] at this;exact this
         clear hless
         have e130:=hb4.cell c130
         have e131:=hb4.cell c131
         have e80:=hb4.cell c80
         have e81:=hb4.cell c81
         have g80:=hb4.frozen c80 f80
         have g81:=hb4.frozen c81 f81
         have b0t:=hb4.cell b0z
         cases AO
         ·go_wp2_with fail
          go_roundg (6 - (q+1))
          case measure=>omega
          case rel=>exact ⟨s',q+1,rfl,by omega,rfl,by go_num,hbest',X',hSc3.later hb4,HSTAY.out (fun h=>h.elim (fun h=>by have h8:=hneg.out;omega) (fun h=>by have h9:=HLESS.out;first|(have:=h9.2 h;cases this)|exact h9.2 h|omega|(simp at h9;omega)))⟩
         ·go_wp2_with fail
          go_roundg (6 - (q+1))
          case measure=>omega
          case rel=>exact ⟨idj,q+1,rfl,by omega,rfl,by go_num,Or.inr hmem.out,_,HS.out _ _ _ hb4 hX13 hY13,HTAKE.out (Or.inr (by have h9:=HLESS.out;first|exact h9.1 rfl|exact h9.1 trivial|exact h9|(simp at h9;omega)))⟩
        ·go_wp2_with fail;go_roundg (6 - (q+1))
         case measure=>omega
         case rel=>exact ⟨idj,q+1,rfl,by omega,rfl,by go_num,Or.inr hmem.out,_,HS.out _ _ _ (jD _) hX13 hY13,HTAKE.out (Or.inl (HEMP.out.1 hemp))⟩
      ·have HFULL:Hid (GF B (AV key k B (j+1)) s' X'):=by
        have hw:=HWIN'.out;rw [show q=wt.toNat by omega] at hw;show GF _ _ _ _;rw [HNX.out];exact hw
       go_wp2_with fail
       go_roundg (B.length - (j+1))
       case measure=>omega
       case rel=>exact ⟨s',j+1,rfl,by omega,rfl,by go_num,hbest',X',hSc',HFULL.out⟩
    ·obtain rfl:j=B.length:=by omega
     have hown2:=hSc.own;have HEMP:=jp (HWIN.out.emp HPO.out);have hbW:=hSc.bel;cases hemp:s.toList.isEmpty
     ·have hne:∃b∈B,b.1=s:=by
       rcases hbest with h|h
       ·exfalso;rw [ByteArray.toList_eq] at hemp;have hl:s.data.toList.length=0:=by simpa using h
        rw [jS hl] at hemp;simp at hemp
       ·exact h
      have HNE:Hid (∃b∈B,b.1=s):=hne
      have HPOS:Hid (0≤(AV key k B B.length).1):=by
       rcases Int.lt_or_le (AV key k B B.length).1 0 with h|h
       ·rw [HEMP.out.2 h] at hemp;cases hemp
       ·exact h
      have HL2:Hid (L++[(s,0,0)]=(List.range (k+1)).map (fun s=>(A7 B (CS key B s),0,0))):=by
       show L++_=_;rw [List.range_succ,List.map_append,←HLE.out,HWIN.out.1];rfl
      clear hne hbest
      go_wp2_with (first|(at_builtin;refine wpList_append_own _ rfl _ _ 121 rfl W.heap.size 183 i0 (.agg #[.string ByteArray.empty,.int .i64 0,.int .i64 0]) 3 32 Tryz.underlying121 hi hz0 hz1 hz2 rfl (by decide) _ k (Av L) rfl ?o1 ⟨wr.heap.size,0,none⟩ 1 1 [.string s,.int .i64 0,.int .i64 0] rfl rfl ?c1 ?c2 ?c3 ?c4 ?c5 ?_))
      case o1=>exact hown2.alloc _
      try (case c1=>exact FX _ _ _ _ _ _ (by simp))
      case c2=>first|rfl|(intro u hu;simp at hu;rcases hu with rfl|rfl|rfl <;>rfl)
      case c3=>unfold maxLen;omega
      case c4=>omega
      case c5=>have:=hbW.size;simp;omega
      intro v' w6 hown' hgrow _
      have hb6:Aa W w6:=(hbW.step_alloc _).grown hgrow (fun g hg=>(hown2.lt g hg).1)
      clear hgrow
      go_wp2_with fail
      go_roundg (slots.toNat - (k+1))
      case measure=>omega
      case rel=>exact ⟨k+1,L++[(s,0,0)],rfl,by omega,by go_num,by simp [hL],by rw [Gq];exact hown',hb6,fun x hx=>(by rcases jT.1 hx with h1|h1;exact hall x h1;(simp at h1;subst h1;exact ⟨HNE.out,Cd,Cd⟩)),HL2.out,fun _=>⟨k,HPOS.out⟩⟩
     ·have HNO:=jp (HW1.out k (HEMP.out.1 hemp));go_wp2;go_ret;exact ⟨_,[],rfl,hbel0.trans hbW,⟨Or.inl ⟨rfl,rfl,rfl⟩,fun g hg=>(by cases hg)⟩,by simp,fun x hx=>(by simp at hx),fun _=>Or.inl rfl,HNO.out⟩
  ·have hown':=Ap.of_owns hown;rw [←hL] at hown';have hents:Dz px wr _ L:=⟨hown',fun g hg=>jX (Nat.le_of_lt hbx0) (World.ownsRow.lt hown g hg).1⟩;have hkk:(L.length:Int)=slots:=by omega
   have HKK:Hid ((L.length:Int)=slots):=hkk
   have HTAB : Hid (BU ⟨alg, slots, points, probes, key, formats⟩ B L) := HW2.out L (HLS.out (by omega)) (by
     have := HLE.out
     rw [show k = slots.toNat by omega] at this
     exact this)
   clear hown hown' hkk;go_wp2;go_ret;exact ⟨_,L,rfl,hbel0.trans hb,by rw [HPX.out];exact hents,by omega,hall,fun _=>Or.inr HKK.out,HTAB.out⟩
end Go.Proofs.YtpapdkhjdelfcabGreat
